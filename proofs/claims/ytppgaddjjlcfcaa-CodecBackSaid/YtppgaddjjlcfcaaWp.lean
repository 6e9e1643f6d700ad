/- PutInt and PutText, in the layer and in the reference. Conditions: the slices read as lists; at most 100000 bytes. -/
import Derived.Test.YtppgaddjjlcfcaaWr
import Derived.Lib.AppendStr
set_option linter.unusedSimpArgs false
set_option linter.unusedVariables false
namespace Go.Proofs.Ytppgaddjjlcfcaa.Mt
open Go
/-- the bytes of a string -/
def bl (s : ByteArray) : List Int := s.data.toList.map (fun b => (b.toNat : Int))
theorem bl_len (s : ByteArray) : (bl s).length = s.size := by simp [bl]
theorem bl_in (s : ByteArray) : ∀ x ∈ bl s, 0 ≤ x ∧ x ≤ 255 := by
  intro x hx
  unfold bl at hx
  rw [List.mem_map] at hx
  obtain ⟨b, _, rfl⟩ := hx
  have := b.toNat_lt
  omega
theorem bl_at {s : ByteArray} {i : Nat} (h : i < s.size) : ((s[i]'h).toNat : Int) = iat (bl s) i := by
  have hd : i < s.data.toList.length := by simpa using h
  unfold iat bl
  rw [List.getD_eq_getElem?_getD, List.getElem?_map, List.getElem?_eq_getElem hd]
  simp
  rfl
end Go.Proofs.Ytppgaddjjlcfcaa.Mt
namespace Go.Proofs.Ytppgaddjjlcfcaa.Wk
open Go.RowKit
open Go.Proofs.Ytppgaddjjlcfcaa.Mt
theorem strCells_bl (s : ByteArray) : Lib.strCells s = vk .u8 (bl s) := by simp [Lib.strCells, vk, bl]
def Wt (L : List Int) (w : World) (e : Ending) (w' : World) : Prop := ∃ v, e = .returned v ∧ Ob w.heap.size w' v L ∧ Below w.heap.size w w'
theorem putInt12 (A : Option Addr) (n c : Nat) (zs : List Int) (x : Int) (w : World) (h : Sl w A n c zs) (hn : n ≤ 200000) (hx : -9223372036854775808 ≤ x ∧ x ≤ 9223372036854775807) : Calls Try.prog 12 #[.slice A n c, .int .i64 x] w (Wt (zs ++ enc (zz x)) w) := by
  have HL : Hid (zs.length = n) := Lib.hid h.rk.1
  go_enter Try.func12, Try.ntmps12
  go_wp2_with fail
  refine (fresh34 A n c 10 zs w h hn (by omega)).mono ?_
  rintro e w1 ⟨v, rfl, ho, hb⟩
  have HB1 := Lib.hid hb
  have HO := Lib.hid ho
  clear ho hb h
  go_wp2_with fail
  refine (putCode33 w.heap.size v zs x w1 HO.out HB1.out.size (by rw [HL.out]; omega) hx).mono ?_
  rintro e w2 ⟨v2, rfl, ho, hb⟩
  have HB2 := Lib.hid (HB1.out.trans hb)
  have HO2 := Lib.hid ho
  clear ho hb
  go_wp2_with fail
  go_ret
  exact ⟨_, rfl, HO2.out, HB2.out⟩
set_option maxHeartbeats 2000000 in
theorem putText13 (A : Option Addr) (n c : Nat) (zs : List Int) (s : ByteArray) (w : World) (h : Sl w A n c zs) (hn : n ≤ 200000) (hs : s.size ≤ 100000) : Calls Try.prog 13 #[.slice A n c, .string s] w (Wt (zs ++ enc (zz (s.size : Int)) ++ bl s) w) := by
  obtain ⟨i0, hi0, hz0, hs0, hb0'⟩ := info_parts u8_info
  have HB0 := Lib.hid hb0'
  have HL : Hid (zs.length = n) := Lib.hid h.rk.1
  obtain ⟨m, hm⟩ : ∃ m, s.size = m := ⟨_, rfl⟩
  have hmI : ((s.size : Nat) : Int) = (m : Int) := by omega
  have HM := Lib.hid hm
  have hm1 : m ≤ 100000 := by omega
  have W1 : IntKind.i64.wrap (10 + (m : Int)) = ((10 + m : Nat) : Int) := by rw [IntWalk.i64_in _ (by omega)]; omega
  have HEN : Hid ((enc (zz (m : Int))).length ≤ 10) := Lib.hid (enc_ten (zz_lt (by omega)))
  clear hm hs hb0'
  go_enter Try.func13, Try.ntmps13
  go_wp2_with fail
  refine (fresh34 A n c (10 + m) zs w h hn (by omega)).mono ?_
  rintro e w1 ⟨v, rfl, ho, hb⟩
  have HB1 := Lib.hid hb
  have HO := Lib.hid ho
  clear ho hb h W1
  go_wp2_with fail
  refine (putCode33 w.heap.size v zs (m : Int) w1 HO.out HB1.out.size (by rw [HL.out]; omega) (by omega)).mono ?_
  rintro e w2 ⟨v2, rfl, ho, hb⟩
  have HB2 := Lib.hid (HB1.out.trans hb)
  have HO2 := Lib.hid ho
  have C4 : Hid ((zs ++ enc (zz (m : Int))).length + s.size ≤ maxLen) := Lib.hid (by rw [List.length_append, HL.out, HM.out]; have := HEN.out; unfold maxLen; omega)
  have C5 : Hid ((zs ++ enc (zz (m : Int))).length + s.size ≤ 140737488355328) := Lib.hid (by rw [List.length_append, HL.out, HM.out]; have := HEN.out; omega)
  have HSZ : Hid (w.heap.size ≤ w2.heap.size) := Lib.hid HB2.out.size
  clear ho hb
  go_wp2_with (first | (go_loud (at_builtin; refine Lib.wpList_append_own_string _ rfl _ _ 22 9 rfl w.heap.size 5 i0 Try.underlying22 Try.underlying9 hi0 hz0 hs0 HB0.out _ _ _ rfl HO2.out s rfl C4.out C5.out HSZ.out ?_)) | fail)
  intro v' w9 hown hgrow _
  have HO9 : Hid (Ob w.heap.size w9 v' (zs ++ enc (zz ((s.size : Nat) : Int)) ++ bl s)) := Lib.hid (by
    rw [HM.out]
    rw [strCells_bl] at hown
    exact Ob.more hown (by simp only [List.length_append, bl_len]))
  have HB9 : Hid (Below w.heap.size w w9) := Lib.hid (HB2.out.grown hgrow HSZ.out (fun k hk => (World.ownsRow.lt HO2.out k hk).1))
  clear hown hgrow
  go_wp2_with fail
  go_ret
  exact ⟨_, rfl, HO9.out, HB9.out⟩
set_option maxHeartbeats 4000000 in
set_option maxRecDepth 100000 in
theorem putInt15 (A : Option Addr) (k c : Nat) (zs : List Int) (n : Int) (w : World) (h : Sl w A k c zs) (hk : k ≤ 200000) (hn : -9223372036854775808 ≤ n ∧ n ≤ 9223372036854775807) : Calls Try.prog 15 #[.slice A k c, .int .i64 n] w (Wt (zs ++ enc (zz n)) w) := by
  obtain ⟨i0, hi0, hz0, hs0, hb0'⟩ := info_parts u8_info
  have HB0 := Lib.hid hb0'
  have HL : Hid (zs.length = k) := Lib.hid h.rk.1
  obtain ⟨c0, hc0⟩ : ∃ c, zz n = c := ⟨_, rfl⟩
  have hc64 := zz_lt hn
  rw [hc0] at hc64
  have HC0 := Lib.hid hc0
  have HN := Lib.hid (enc_ten hc64)
  clear hc0 hb0'
  go_enter Try.func15, Try.ntmps15
  go_wp2_with fail
  refine (copy11 A k c zs w h hk).mono ?_
  rintro e w1 ⟨v, rfl, ho, hb⟩
  have HB0w := Lib.hid hb
  have HO0 := Lib.hid ho
  clear ho hb h
  by_cases hneg : n < 0
  · as_aux_lemma =>
    obtain ⟨m, hm⟩ : ∃ m : Nat, -(n + 1) = (m : Int) := ⟨(-(n + 1)).toNat, by omega⟩
    have e0 : decide (n < 0) = true := decide_eq_true hneg
    have W1 : IntKind.i64.wrap (n + 1) = n + 1 := IntWalk.i64_in _ (by omega)
    have W2 : IntKind.i64.wrap (-(n + 1)) = (m : Int) := by rw [IntWalk.i64_in _ (by omega)]; omega
    have W3 : IntKind.u64.wrap (m : Int) = (m : Int) := by rw [IntKind.wrap_u64]; omega
    have W4 : IntKind.u64.wrap (2 * (m : Int)) = 2 * (m : Int) := by rw [IntKind.wrap_u64]; omega
    have W5 : IntKind.u64.wrap (2 * (m : Int) + 1) = (c0 : Int) := by rw [IntKind.wrap_u64, ← HC0.out]; unfold zz; rw [if_pos hneg]; omega
    clear hm
    go_wp2_with fail
    clear W1 W2 W3 W4 W5 e0
    go_loopw [5, 6] (fun bv cv wr => ∃ (cd : Nat) (cur : List Int), cv = .int .u64 (cd : Int) ∧ cd < 18446744073709551616 ∧ Hid (cur ++ enc cd = zs ++ enc c0) ∧ Hid (Ob w.heap.size wr bv cur) ∧ Hid (Below w.heap.size w wr)) (fun _ cv _ => (intOf cv).toNat)
    case atStart => exact ⟨c0, zs, rfl, hc64, Lib.hid rfl, HO0, HB0w⟩
    case round =>
      obtain ⟨cd, cur, rfl, hcd, HE, HO, HB⟩ := hrel
      clear HO0 HB0w
      have hcl : cur.length ≤ 300010 := by
        have h1 := congrArg List.length HE.out
        rw [List.length_append, List.length_append] at h1
        have := HN.out
        have := HL.out
        omega
      have C4 : Hid (cur.length + 1 ≤ maxLen) := Lib.hid (by unfold maxLen; omega)
      have C5 : Hid ((cur.length + 1) * 1 ≤ 140737488355328) := Lib.hid (by omega)
      have hsz : w.heap.size ≤ wr.heap.size := HB.out.size
      clear hcl
      by_cases h128 : 128 ≤ cd
      · have h1 : (128 : Int) ≤ (cd : Int) := by omega
        obtain ⟨r0, hr0⟩ : ∃ r : Nat, cd % 128 = r := ⟨_, rfl⟩
        have hr0b : r0 < 128 := by omega
        have M0 : Int.tmod (cd : Int) 128 = (r0 : Int) := by rw [Int.tmod_eq_emod_of_nonneg (by omega)]; omega
        have M1 : (r0 : Int) % 256 = (r0 : Int) := by omega
        have M2 : IntKind.u8.wrap (r0 : Int) = (r0 : Int) := IntWalk.u8_in _ (by omega)
        obtain ⟨r, hr⟩ : ∃ r : Nat, r0 + 128 = r := ⟨_, rfl⟩
        have M3 : ((r0 : Int) + 128) % 256 = (r : Int) := by omega
        have M4 : IntKind.u8.wrap ((r0 : Int) + 128) = (r : Int) := by rw [IntWalk.u8_in _ (by omega)]; omega
        obtain ⟨q, hq⟩ : ∃ q, cd / 128 = q := ⟨_, rfl⟩
        have D1 : Int.tdiv (cd : Int) 128 = (q : Int) := by rw [Int.tdiv_eq_ediv_of_nonneg (by omega)]; omega
        have D2 : IntKind.u64.wrap (q : Int) = (q : Int) := by rw [IntKind.wrap_u64]; omega
        have D3 : IntKind.u64.wrap (r0 : Int) = (r0 : Int) := by rw [IntKind.wrap_u64]; omega
        have HE2 : Hid ((cur ++ [(r : Int)]) ++ enc q = zs ++ enc c0) := Lib.hid (by rw [← HE.out, enc_hi (c := cd) (by omega), hr0, hr, hq]; simp)
        have hq64 : q < 18446744073709551616 := by omega
        have hqd : q < cd := by omega
        have HSZ : Hid (w.heap.size ≤ (wr.alloc (.cells #[.int .u8 ((r : Nat) : Int)] 5)).heap.size) := Lib.hid (by simp; omega)
        clear hr hq hr0
        go_wp2_with (first | (go_loud (at_builtin; refine wpList_append_own _ rfl _ _ 22 rfl w.heap.size 5 i0 (.int .u8 0) 1 1 Try.underlying22 hi0 hz0 hs0 HB0.out rfl (by omega) _ _ _ rfl (World.ownsRow.alloc HO.out _) ⟨_, 0, none⟩ 1 1 [.int .u8 ((r : Nat) : Int)] rfl rfl (new_cell _ _ _ _ (by simp)) (one_byte _) C4.out C5.out HSZ.out ?_)) | fail)
        intro v' w9 hown hgrow _
        have HO9 : Hid (Ob w.heap.size w9 v' (cur ++ [(r : Int)])) := Lib.hid (Ob.more (m := [(r : Int)]) (n := cur.length + 1) hown (by simp))
        have HB9 : Hid (Below w.heap.size w w9) := Lib.hid ((HB.out.alloc hsz (.cells #[.int .u8 ((r : Nat) : Int)] 5)).grown hgrow HSZ.out (fun k hk => (World.ownsRow.lt HO.out k hk).1))
        clear hown hgrow
        go_wp2_with fail
        go_roundw
        case rel => exact ⟨q, _, rfl, hq64, HE2, HO9, HB9⟩
        case measure => simp [intOf]; omega
      · have h1 : ¬ (128 : Int) ≤ (cd : Int) := by omega
        have W8 : (cd : Int) % 256 = (cd : Int) := by omega
        have HE2 : Hid (cur ++ [(cd : Int)] = zs ++ enc c0) := Lib.hid (by rw [← HE.out, enc_lo (by omega)])
        have HSZ : Hid (w.heap.size ≤ (wr.alloc (.cells #[.int .u8 ((cd : Nat) : Int)] 5)).heap.size) := Lib.hid (by simp; omega)
        go_wp2_with (first | (go_loud (at_builtin; refine wpList_append_own _ rfl _ _ 22 rfl w.heap.size 5 i0 (.int .u8 0) 1 1 Try.underlying22 hi0 hz0 hs0 HB0.out rfl (by omega) _ _ _ rfl (World.ownsRow.alloc HO.out _) ⟨_, 0, none⟩ 1 1 [.int .u8 ((cd : Nat) : Int)] rfl rfl (new_cell _ _ _ _ (by simp)) (one_byte _) C4.out C5.out HSZ.out ?_)) | fail)
        intro v' w9 hown hgrow _
        have HO9 : Hid (Ob w.heap.size w9 v' (zs ++ enc c0)) := Lib.hid (by rw [← HE2.out]; exact Ob.more (m := [(cd : Int)]) (n := cur.length + 1) hown (by simp))
        have HB9 : Hid (Below w.heap.size w w9) := Lib.hid ((HB.out.alloc hsz (.cells #[.int .u8 ((cd : Nat) : Int)] 5)).grown hgrow HSZ.out (fun k hk => (World.ownsRow.lt HO.out k hk).1))
        clear hown hgrow
        go_wp2_with fail
        go_ret
        exact ⟨_, rfl, by rw [HC0.out]; exact HO9.out, HB9.out⟩
  · as_aux_lemma =>
    have e0 : decide (n < 0) = false := decide_eq_false hneg
    obtain ⟨m, rfl⟩ : ∃ m : Nat, n = (m : Int) := ⟨n.toNat, by omega⟩
    have W3 : IntKind.u64.wrap (m : Int) = (m : Int) := by rw [IntKind.wrap_u64]; omega
    have W4 : IntKind.u64.wrap (2 * (m : Int)) = (c0 : Int) := by rw [IntKind.wrap_u64, ← HC0.out]; unfold zz; rw [if_neg hneg]; omega
    go_wp2_with fail
    clear W3 W4 e0
    go_loopw [5, 6] (fun bv cv wr => ∃ (cd : Nat) (cur : List Int), cv = .int .u64 (cd : Int) ∧ cd < 18446744073709551616 ∧ Hid (cur ++ enc cd = zs ++ enc c0) ∧ Hid (Ob w.heap.size wr bv cur) ∧ Hid (Below w.heap.size w wr)) (fun _ cv _ => (intOf cv).toNat)
    case atStart => exact ⟨c0, zs, rfl, hc64, Lib.hid rfl, HO0, HB0w⟩
    case round =>
      obtain ⟨cd, cur, rfl, hcd, HE, HO, HB⟩ := hrel
      clear HO0 HB0w
      have hcl : cur.length ≤ 300010 := by
        have h1 := congrArg List.length HE.out
        rw [List.length_append, List.length_append] at h1
        have := HN.out
        have := HL.out
        omega
      have C4 : Hid (cur.length + 1 ≤ maxLen) := Lib.hid (by unfold maxLen; omega)
      have C5 : Hid ((cur.length + 1) * 1 ≤ 140737488355328) := Lib.hid (by omega)
      have hsz : w.heap.size ≤ wr.heap.size := HB.out.size
      clear hcl
      by_cases h128 : 128 ≤ cd
      · have h1 : (128 : Int) ≤ (cd : Int) := by omega
        obtain ⟨r0, hr0⟩ : ∃ r : Nat, cd % 128 = r := ⟨_, rfl⟩
        have hr0b : r0 < 128 := by omega
        have M0 : Int.tmod (cd : Int) 128 = (r0 : Int) := by rw [Int.tmod_eq_emod_of_nonneg (by omega)]; omega
        have M1 : (r0 : Int) % 256 = (r0 : Int) := by omega
        have M2 : IntKind.u8.wrap (r0 : Int) = (r0 : Int) := IntWalk.u8_in _ (by omega)
        obtain ⟨r, hr⟩ : ∃ r : Nat, r0 + 128 = r := ⟨_, rfl⟩
        have M3 : ((r0 : Int) + 128) % 256 = (r : Int) := by omega
        have M4 : IntKind.u8.wrap ((r0 : Int) + 128) = (r : Int) := by rw [IntWalk.u8_in _ (by omega)]; omega
        obtain ⟨q, hq⟩ : ∃ q, cd / 128 = q := ⟨_, rfl⟩
        have D1 : Int.tdiv (cd : Int) 128 = (q : Int) := by rw [Int.tdiv_eq_ediv_of_nonneg (by omega)]; omega
        have D2 : IntKind.u64.wrap (q : Int) = (q : Int) := by rw [IntKind.wrap_u64]; omega
        have D3 : IntKind.u64.wrap (r0 : Int) = (r0 : Int) := by rw [IntKind.wrap_u64]; omega
        have HE2 : Hid ((cur ++ [(r : Int)]) ++ enc q = zs ++ enc c0) := Lib.hid (by rw [← HE.out, enc_hi (c := cd) (by omega), hr0, hr, hq]; simp)
        have hq64 : q < 18446744073709551616 := by omega
        have hqd : q < cd := by omega
        have HSZ : Hid (w.heap.size ≤ (wr.alloc (.cells #[.int .u8 ((r : Nat) : Int)] 5)).heap.size) := Lib.hid (by simp; omega)
        clear hr hq hr0
        go_wp2_with (first | (go_loud (at_builtin; refine wpList_append_own _ rfl _ _ 22 rfl w.heap.size 5 i0 (.int .u8 0) 1 1 Try.underlying22 hi0 hz0 hs0 HB0.out rfl (by omega) _ _ _ rfl (World.ownsRow.alloc HO.out _) ⟨_, 0, none⟩ 1 1 [.int .u8 ((r : Nat) : Int)] rfl rfl (new_cell _ _ _ _ (by simp)) (one_byte _) C4.out C5.out HSZ.out ?_)) | fail)
        intro v' w9 hown hgrow _
        have HO9 : Hid (Ob w.heap.size w9 v' (cur ++ [(r : Int)])) := Lib.hid (Ob.more (m := [(r : Int)]) (n := cur.length + 1) hown (by simp))
        have HB9 : Hid (Below w.heap.size w w9) := Lib.hid ((HB.out.alloc hsz (.cells #[.int .u8 ((r : Nat) : Int)] 5)).grown hgrow HSZ.out (fun k hk => (World.ownsRow.lt HO.out k hk).1))
        clear hown hgrow
        go_wp2_with fail
        go_roundw
        case rel => exact ⟨q, _, rfl, hq64, HE2, HO9, HB9⟩
        case measure => simp [intOf]; omega
      · have h1 : ¬ (128 : Int) ≤ (cd : Int) := by omega
        have W8 : (cd : Int) % 256 = (cd : Int) := by omega
        have HE2 : Hid (cur ++ [(cd : Int)] = zs ++ enc c0) := Lib.hid (by rw [← HE.out, enc_lo (by omega)])
        have HSZ : Hid (w.heap.size ≤ (wr.alloc (.cells #[.int .u8 ((cd : Nat) : Int)] 5)).heap.size) := Lib.hid (by simp; omega)
        go_wp2_with (first | (go_loud (at_builtin; refine wpList_append_own _ rfl _ _ 22 rfl w.heap.size 5 i0 (.int .u8 0) 1 1 Try.underlying22 hi0 hz0 hs0 HB0.out rfl (by omega) _ _ _ rfl (World.ownsRow.alloc HO.out _) ⟨_, 0, none⟩ 1 1 [.int .u8 ((cd : Nat) : Int)] rfl rfl (new_cell _ _ _ _ (by simp)) (one_byte _) C4.out C5.out HSZ.out ?_)) | fail)
        intro v' w9 hown hgrow _
        have HO9 : Hid (Ob w.heap.size w9 v' (zs ++ enc c0)) := Lib.hid (by rw [← HE2.out]; exact Ob.more (m := [(cd : Int)]) (n := cur.length + 1) hown (by simp))
        have HB9 : Hid (Below w.heap.size w w9) := Lib.hid ((HB.out.alloc hsz (.cells #[.int .u8 ((cd : Nat) : Int)] 5)).grown hgrow HSZ.out (fun k hk => (World.ownsRow.lt HO.out k hk).1))
        clear hown hgrow
        go_wp2_with fail
        go_ret
        exact ⟨_, rfl, by rw [HC0.out]; exact HO9.out, HB9.out⟩
set_option maxHeartbeats 4000000 in
set_option maxRecDepth 100000 in
theorem putText16 (A : Option Addr) (k c : Nat) (zs : List Int) (s : ByteArray) (w : World) (h : Sl w A k c zs) (hk : k ≤ 200000) (hs : s.size ≤ 100000) : Calls Try.prog 16 #[.slice A k c, .string s] w (Wt (zs ++ enc (zz (s.size : Int)) ++ bl s) w) := by
  obtain ⟨i0, hi0, hz0, hs0, hb0'⟩ := info_parts u8_info
  have HB0 := Lib.hid hb0'
  have HL : Hid (zs.length = k) := Lib.hid h.rk.1
  obtain ⟨m, hm⟩ : ∃ m, s.size = m := ⟨_, rfl⟩
  have hmI : ((s.size : Nat) : Int) = (m : Int) := by omega
  have HM := Lib.hid hm
  have hm1 : m ≤ 100000 := by omega
  have HEN : Hid ((enc (zz (m : Int))).length ≤ 10) := Lib.hid (enc_ten (zz_lt (by omega)))
  clear hm hs hb0'
  go_enter Try.func16, Try.ntmps16
  go_wp2_with fail
  refine (putInt15 A k c zs (m : Int) w h hk (by omega)).mono ?_
  rintro e w1 ⟨v, rfl, ho, hb⟩
  obtain ⟨L, hL⟩ : ∃ L, zs ++ enc (zz (m : Int)) = L := ⟨_, rfl⟩
  rw [hL] at ho
  have HO0 := Lib.hid ho
  have HB1 := Lib.hid hb
  have HLL : Hid (L.length ≤ 200010) := Lib.hid (by rw [← hL, List.length_append, HL.out]; have := HEN.out; omega)
  have HEQ : Hid (zs ++ (enc (zz (m : Int)) ++ bl s) = L ++ bl s) := Lib.hid (by rw [← List.append_assoc, hL])
  clear ho hb h hL
  go_wp2_with fail
  go_loopw [5, 6] (fun bv iv wr => ∃ i : Nat, i ≤ m ∧ iv = .int .i64 i ∧ Hid (Ob w.heap.size wr bv (L ++ (bl s).take i)) ∧ Hid (Below w.heap.size w wr)) (fun _ iv _ => m - (intOf iv).toNat)
  case atStart => exact ⟨0, by omega, rfl, Lib.hid (by rw [List.take_zero, List.append_nil]; exact HO0.out), HB1⟩
  case round =>
    obtain ⟨i, hi, rfl, HO, HB⟩ := hrel
    clear HO0 HB1
    by_cases hlt : i < m
    · have hltI : (i : Int) < (m : Int) := by omega
      have W1 : IntKind.i64.wrap ((i : Int) + 1) = (i : Int) + 1 := IntWalk.i64_in _ (by omega)
      have his : i < s.size := by rw [HM.out]; exact hlt
      obtain ⟨r, hr⟩ : ∃ r : Nat, (s[i]'his).toNat = r := ⟨_, rfl⟩
      have gx : ((s[i]'his).toNat : Int) = (r : Int) := by rw [hr]
      have HTK : Hid ((bl s).take (i + 1) = (bl s).take i ++ [(r : Int)]) := Lib.hid (by
        have hl : i < (bl s).length := by rw [bl_len]; exact his
        rw [List.take_add_one, List.getElem?_eq_getElem hl]
        have e1 : (bl s)[i] = (r : Int) := by
          have h2 := bl_at his
          unfold iat at h2
          rw [List.getD_eq_getElem?_getD, List.getElem?_eq_getElem hl] at h2
          rw [gx] at h2
          exact h2.symm
        rw [e1]
        rfl)
      have hcl : (L ++ (bl s).take i).length ≤ 300010 := by rw [List.length_append, List.length_take]; have := HLL.out; omega
      have C4 : Hid ((L ++ (bl s).take i).length + 1 ≤ maxLen) := Lib.hid (by unfold maxLen; omega)
      have C5 : Hid (((L ++ (bl s).take i).length + 1) * 1 ≤ 140737488355328) := Lib.hid (by omega)
      have hsz : w.heap.size ≤ wr.heap.size := HB.out.size
      have HSZ : Hid (w.heap.size ≤ (wr.alloc (.cells #[.int .u8 ((r : Nat) : Int)] 5)).heap.size) := Lib.hid (by simp; omega)
      clear hcl hr
      go_wp2_with (first | (go_loud (at_builtin; refine wpList_append_own _ rfl _ _ 22 rfl w.heap.size 5 i0 (.int .u8 0) 1 1 Try.underlying22 hi0 hz0 hs0 HB0.out rfl (by omega) _ _ _ rfl (World.ownsRow.alloc HO.out _) ⟨_, 0, none⟩ 1 1 [.int .u8 ((r : Nat) : Int)] rfl rfl (new_cell _ _ _ _ (by simp)) (one_byte _) C4.out C5.out HSZ.out ?_)) | fail)
      intro v' w9 hown hgrow _
      have HO9 : Hid (Ob w.heap.size w9 v' (L ++ (bl s).take (i + 1))) := Lib.hid (by rw [HTK.out, ← List.append_assoc]; exact Ob.more (m := [(r : Int)]) hown (by simp only [List.length_append, List.length_singleton, List.length_take]))
      have HB9 : Hid (Below w.heap.size w w9) := Lib.hid ((HB.out.alloc hsz (.cells #[.int .u8 ((r : Nat) : Int)] 5)).grown hgrow HSZ.out (fun k hk => (World.ownsRow.lt HO.out k hk).1))
      clear hown hgrow
      go_wp2_with fail
      go_roundw
      case rel => exact ⟨i + 1, by omega, by go_num, HO9, HB9⟩
      case measure => simp [intOf]; omega
    · have hltI : ¬ (i : Int) < (m : Int) := by omega
      obtain rfl : i = m := by omega
      have HO9 : Hid (Ob w.heap.size wr _ (zs ++ (enc (zz (i : Int)) ++ bl s))) := Lib.hid (by
        have := HO.out
        rw [List.take_of_length_le (by rw [bl_len, HM.out]; exact Nat.le_refl _)] at this
        rw [HEQ.out]
        exact this)
      go_wp2_with fail
      go_ret
      exact ⟨_, rfl, HO9.out, HB.out⟩
end Go.Proofs.Ytppgaddjjlcfcaa.Wk
