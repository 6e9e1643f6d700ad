/- All levels of a tree, in the layer. Conditions: the slice reads as 64-bit numbers; no more than 4096 of them. -/
import Derived.Test.YtbhdghopdhehdaaLvs
set_option linter.unusedSimpArgs false
set_option linter.unusedVariables false
namespace Go.Proofs.Ytbhdghopdhehdaa.Wk
open Go.RowKit
open Go.Proofs.Ytbhdghopdhehdaa.Mt
theorem own_cell {w : World} {base g n cap : Nat} {vals : List Value} {u : Value} {q : Nat} (h : w.ownsRow base 31 1 (.slice (some ⟨g, 0, none⟩) n cap) n vals) (hq : vals[q]? = some u) : w.cell? ⟨g, q, none⟩ = some u := by
  have := h.cells (g := g) rfl q u hq
  have e : (⟨g, 0, none⟩ : Addr).add q = ⟨g, q, none⟩ := by unfold Addr.add; by_cases h : q = 0 <;> simp [h]
  rw [e] at this
  exact this
set_option maxHeartbeats 2000000 in
set_option maxRecDepth 100000 in
theorem grow34 (A : Option Addr) (n c : Nat) (l : List Int) (w : World) (h : Rk .u64 w w.heap.size A n l) (h1 : 1 ≤ n) (hn4 : n ≤ 4096) :
    Calls Try.prog 34 #[.slice A n c] w fun e w' => ∃ v, e = .returned v ∧ Ol w w' v n l (ht n + 1) := by
  have HL := Lib.hid h.1
  have HR := Lib.hid h
  have hn := h.2.1
  clear h
  have hht := ht_le n
  obtain ⟨i0, hi0, hz0, hs0, hb0'⟩ := info_parts sl_info
  have HO0 : Hid (Ol w (w.alloc (.cells #[.slice A n c] 31)) (.slice (some ⟨w.heap.size, 0, none⟩) 1 1) n l 1) := Lib.hid ⟨[.slice A n c], World.ownsRow_lit (e := 31) w #[.slice A n c] 1 (Nat.le_refl _) (by unfold maxLen; omega) rfl, rfl, b1 _ _, fun q hq => by
    obtain rfl : q = 0 := by omega
    refine ⟨A, c, rfl, HR.out.up (b1 _ _), fun h0 b off e hb => ?_⟩
    obtain ⟨b', off', e', hlt', _⟩ := HR.out.2.2.1 h0
    rw [e] at e'
    injection e' with e'
    injection e' with e1
    have hb : some b = some w.heap.size := hb
    injection hb with hb
    omega⟩
  go_enter Try.func34, Try.ntmps34
  go_wp2_with (go_at_call 30; refine (height30 n hn _).mono ?_; rintro e w' ⟨rfl, rfl⟩)
  go_loopw [3, 10] (fun v iv wr => ∃ (k g cap : Nat), iv = .int .i64 k ∧ v = .slice (some ⟨g, 0, none⟩) (k + 1) cap ∧ k ≤ ht n ∧ Hid (Ol w wr v n l (k + 1))) (fun _ iv _ => ht n - (intOf iv).toNat)
  case atStart => exact ⟨0, w.heap.size, 1, rfl, rfl, Nat.zero_le _, HO0⟩
  case round =>
    obtain ⟨k, g, cap, rfl, rfl, hk, HO⟩ := hrel
    by_cases hlt : k < ht n
    · have hltI : (k : Int) < ((ht n : Nat) : Int) := by omega
      obtain ⟨vals, v1, v2, v3, v4⟩ := HO.out
      obtain ⟨Ak, ck, e1, e2, e3⟩ := v4 k (by omega)
      have d1 := own_cell v1 e1
      obtain ⟨m, hm⟩ : ∃ m, abn n k = m := ⟨_, rfl⟩
      rw [hm] at d1 e2
      have HK := Lib.hid e2
      have HM2 : Hid (ab m = abn n (k + 1)) := Lib.hid (by rw [abn_next, hm])
      have hm4 : m ≤ 4096 := by have := abn_le n k; omega
      clear v1 v2 v3 v4 e1 e2 e3 hm vals
      go_wp2_with fail
      refine (up31 Ak m ck (upn l k) _ HK.out hm4).mono ?_
      rintro e w2 ⟨A2, c2, rfl, ⟨hr, hf⟩, hb⟩
      have HO2 := Lib.hid (HO.out.below hb)
      have HA2 : Hid (Ap A2 (ab m) (.slice (some ⟨g, 0, none⟩) (k + 1) cap)) := Lib.hid (HO.out.freshB hb hf)
      have HK2 : Hid (Rk .u64 w2 w2.heap.size A2 (ab m) (upn l (k + 1))) := Lib.hid hr
      clear hr hf hb HO HK d1
      obtain ⟨vals, v1, v2, v3, v4⟩ := HO2.out
      have V1 := Lib.hid v1
      have V2 := Lib.hid v2
      have V4 := Lib.hid v4
      have hsz := v3.size
      clear v1 v2 v3 v4
      have C4 : Hid (k + 1 + 1 ≤ maxLen) := Lib.hid (by unfold maxLen; omega)
      have C5 : Hid ((k + 1 + 1) * 24 ≤ 140737488355328) := Lib.hid (by omega)
      go_wp2_with (at_builtin; refine wpList_append_lies _ rfl _ _ 57 rfl w.heap.size 31 i0 (.slice none 0 0) 1 24 Try.underlying57 hi0 hz0 hs0 hb0' rfl (by omega) _ (k + 1) vals rfl (V1.out.alloc _) ⟨_, 0, none⟩ 1 1 [.slice A2 (ab m) c2] rfl rfl (new_cell _ _ _ _ (by simp)) (one_slice A2 (ab m) c2) (by omega) C4.out C5.out (by simp; omega) _ rfl ?_)
      intro g9 cap9 w9 hown hgrow hat hlt9
      have hat0 : (Value.slice (some ⟨g, 0, none⟩) (k + 1) cap).ownBlock = some g9 ∨ g9 = w2.heap.size + 1 := by simpa using hat
      have HO9 := Lib.hid (Ol.app HO2.out HM2.out HK2.out HA2.out V1.out V2.out V4.out hown hgrow hat0)
      skip
      clear hown hgrow hat hat0 hlt9
      go_wp2_with fail
      go_roundw
      case rel => exact ⟨k + 1, g9, cap9, by go_num, rfl, by omega, HO9⟩
      case measure => simp [intOf]; omega
    · have hltI : ¬ (k : Int) < ((ht n : Nat) : Int) := by omega
      have hkk : k = ht n := by omega
      go_wp2_with fail
      go_ret
      rw [← hkk]
      first | exact HO.out | exact ⟨_, rfl, HO.out⟩
end Go.Proofs.Ytbhdghopdhehdaa.Wk
