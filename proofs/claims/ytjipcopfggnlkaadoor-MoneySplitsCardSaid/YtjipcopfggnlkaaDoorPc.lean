/- Parse in the layer, walked. Conditions: the string has at most 1000000 bytes. -/
import Derived.Test.YtjipcopfggnlkaaDoorPb
set_option linter.unusedSimpArgs false
set_option linter.unusedVariables false
namespace Go.Proofs.YtjipcopfggnlkaaDoor.Mt
open Go
theorem byte_cases {l : List UInt8} (h : amB l = true) {i : Nat} (hi : i < l.length) : (lat l i = 45 ∧ l.getD i 0 = 45) ∨ (lat l i = 46 ∧ l.getD i 0 = 46) ∨ (48 ≤ lat l i ∧ lat l i ≤ 57) := by
  have hm := (am_bytes h).2 (l[i]) (List.getElem_mem hi)
  have e : l.getD i 0 = l[i] := by rw [List.getD_eq_getElem?_getD, List.getElem?_eq_getElem hi]; rfl
  unfold lat
  rw [e]
  rcases hm with h1 | h1 | h1
  · left; rw [h1]; exact ⟨rfl, rfl⟩
  · right; left; rw [h1]; exact ⟨rfl, rfl⟩
  · right; right; omega
theorem st_dig {n : Nat} {l : List UInt8} {i : Nat} (h : 48 ≤ lat l i) (h2 : lat l i ≤ 57) : ((st n (l.getD i 0) : Nat) : Int) = 10 * (n : Int) + (lat l i - 48) := by
  unfold lat at *
  unfold st
  rw [if_neg (by rintro (h9 | h9) <;> rw [h9] at h <;> revert h <;> decide)]
  omega
theorem st_skip {n : Nat} {c : UInt8} (h : c = 45 ∨ c = 46) : st n c = n := if_pos h
end Go.Proofs.YtjipcopfggnlkaaDoor.Mt
namespace Go.Proofs.YtjipcopfggnlkaaDoor.Wk
open Go.RowKit
open Go.Proofs.YtjipcopfggnlkaaDoor.Mt
set_option maxHeartbeats 4000000 in
set_option maxRecDepth 100000 in
theorem parse23 (s : ByteArray) (l : List UInt8) (w : World) (hs : s.size ≤ 1000000) (hl : s.data.toList = l) : Calls Tryd.prog 23 #[.string s] w fun e w' => e = .returned (.tuple #[.int .i64 (paV l), .int .i64 (paE l)]) ∧ Below w.heap.size w w' := by
  have HL := Lib.hid hl
  have HLS : Hid (l.length = s.size) := Lib.hid (by rw [← hl, ← str_size])
  obtain ⟨V, hV⟩ : ∃ V, paV l = V := ⟨_, rfl⟩
  obtain ⟨E, hE⟩ : ∃ E, paE l = E := ⟨_, rfl⟩
  have HV := Lib.hid hV
  have HE := Lib.hid hE
  rw [hV, hE]
  clear hV hE hl
  go_enter Tryd.func23, Tryd.ntmps23
  go_wp2_with fail
  refine (isAmount40 s w hs).mono ?_
  rintro e w1 ⟨rfl, hb⟩
  rw [HL.out]
  have HB := Lib.hid hb
  clear hb
  rcases fot (amB l) with ha | ha
  · obtain rfl : (5 : Int) = E := (pa_no ha).1.symm.trans HE.out
    obtain rfl : (0 : Int) = V := (pa_no ha).2.symm.trans HV.out
    rw [ha]
    go_wp2_with fail
    go_ret2
    exact ⟨rfl, HB.out⟩
  · rw [ha]
    have HA := Lib.hid ha
    clear ha
    go_wp2_with fail
    go_loopw [4, 5, 11] (fun nv_ _ iv wr => ∃ (i n : Nat), i ≤ s.size ∧ iv = .int .i64 i ∧ nv_ = .int .i64 (n : Int) ∧ n ≤ 1125899906842624 ∧ Hid (n = nv (l.take i)) ∧ Hid (Below w.heap.size w wr)) (fun _ _ iv _ => s.size - (intOf iv).toNat)
    case atStart => exact ⟨0, 0, by omega, rfl, rfl, by omega, Lib.hid rfl, HB⟩
    case round =>
      obtain ⟨i, n, hi, rfl, rfl, hnM, HN, HB⟩ := hrel
      by_cases hlt : i < s.size
      · have hltI : (i : Int) < (s.size : Int) := by omega
        have W1 : IntKind.i64.wrap ((i : Int) + 1) = (i : Int) + 1 := IntWalk.i64_in _ (by omega)
        have hbt := bt_lat hlt
        rw [HL.out] at hbt
        have hc := byte_cases HA.out (i := i) (by rw [HLS.out]; exact hlt)
        have hnx := nv_succ (l := l) (i := i) (by rw [HLS.out]; exact hlt)
        rw [← HN.out] at hnx
        have hsd := st_dig (n := n) (l := l) (i := i)
        obtain ⟨x, hx⟩ : ∃ x, lat l i = x := ⟨_, rfl⟩
        rw [hx] at hbt hc hsd
        rcases hc with ⟨rfl, h2⟩ | ⟨rfl, h2⟩ | ⟨h1, h2⟩
        · have HN2 : Hid (n = nv (l.take (i + 1))) := Lib.hid (by rw [hnx, st_skip (.inl h2)])
          clear hnx hx h2 hsd
          go_wp2_with fail
          go_roundw
          case rel => exact ⟨i + 1, n, by omega, by go_num, rfl, hnM, HN2, HB⟩
          case measure => simp [intOf]; omega
        · have HN2 : Hid (n = nv (l.take (i + 1))) := Lib.hid (by rw [hnx, st_skip (.inr h2)])
          clear hnx hx h2 hsd
          go_wp2_with fail
          go_roundw
          case rel => exact ⟨i + 1, n, by omega, by go_num, rfl, hnM, HN2, HB⟩
          case measure => simp [intOf]; omega
        · obtain ⟨m, hm⟩ : ∃ m, st n (l.getD i 0) = m := ⟨_, rfl⟩
          rw [hm] at hnx hsd
          have hsd2 := hsd h1 h2
          have g1 : (x == 45) = false := by simp; omega
          have g2 : (x == 46) = false := by simp; omega
          have W2 : IntKind.i64.wrap (10 * (n : Int)) = 10 * (n : Int) := IntWalk.i64_in _ (by omega)
          have W3 : IntKind.u8.wrap (x - 48) = x - 48 := by simp [IntKind.wrap, IntKind.bits, IntKind.signed]; omega
          have W3' : (x - 48) % 256 = x - 48 := by omega
          have W4 : IntKind.i64.wrap (x - 48) = x - 48 := IntWalk.i64_in _ (by omega)
          have W5 : IntKind.i64.wrap (10 * (n : Int) + (x - 48)) = (m : Int) := by rw [hsd2]; exact IntWalk.i64_in _ (by omega)
          have HN2 : Hid (m = nv (l.take (i + 1))) := Lib.hid hnx.symm
          clear hnx hx hsd hm hsd2
          by_cases hbig : 1125899906842624 < m
          · have hbI : (1125899906842624 : Int) < (m : Int) := by omega
            have hv : 1125899906842624 < nv l := Nat.lt_of_lt_of_le (by rw [← HN2.out]; exact hbig) (nv_take_le l (i + 1))
            obtain rfl : (13 : Int) = E := (pa_big HA.out hv).1.symm.trans HE.out
            obtain rfl : (0 : Int) = V := (pa_big HA.out hv).2.symm.trans HV.out
            clear hv
            go_wp2_with fail
            go_ret2
            exact ⟨rfl, HB.out⟩
          · have hbI : ¬ (1125899906842624 : Int) < (m : Int) := by omega
            go_wp2_with fail
            go_roundw
            case rel => exact ⟨i + 1, m, by omega, by go_num, rfl, by omega, HN2, HB⟩
            case measure => simp [intOf]; omega
      · have hltI : ¬ (i : Int) < (s.size : Int) := by omega
        obtain rfl : i = s.size := by omega
        have hnl : n = nv l := by rw [HN.out, List.take_of_length_le (by rw [HLS.out]; exact Nat.le_refl _)]
        have hok := pa_ok HA.out (by rw [← hnl]; exact hnM)
        rw [← hnl] at hok
        obtain rfl : (0 : Int) = E := hok.1.symm.trans HE.out
        have hv := hok.2.symm.trans HV.out
        have k0 : 0 < s.size := by rw [← HLS.out]; exact (am_bytes HA.out).1
        have hbt := bt_lat k0
        rw [HL.out] at hbt
        obtain ⟨x, hx⟩ : ∃ x, lat l 0 = x := ⟨_, rfl⟩
        rw [hx] at hbt hv
        have W9 : IntKind.i64.wrap (-(n : Int)) = -(n : Int) := IntWalk.i64_in _ (by omega)
        clear hnl hok hx HN
        by_cases h45 : x = 45
        · rw [if_pos h45] at hv
          obtain rfl : -(n : Int) = V := hv
          have g1 : (x == 45) = true := by simp [h45]
          go_wp2_with fail
          go_ret2
          exact ⟨rfl, HB.out⟩
        · rw [if_neg h45] at hv
          obtain rfl : (n : Int) = V := hv
          have g1 : (x == 45) = false := by simp [h45]
          go_wp2_with fail
          go_ret2
          exact ⟨rfl, HB.out⟩
end Go.Proofs.YtjipcopfggnlkaaDoor.Wk
