/- All levels of a tree, in the reference. Conditions: the slice reads as 64-bit numbers; no more than 4096 of them. -/
import Derived.Test.YtbhdghopdhehdaaPf
set_option linter.unusedSimpArgs false
set_option linter.unusedVariables false
namespace Go.Proofs.Ytbhdghopdhehdaa.Wk
open Go.RowKit
open Go.Proofs.Ytbhdghopdhehdaa.Mt
/-- v owns the first levels of the tree, each of which reads as it should and lies apart from v -/
def Ol (w0 wr : World) (v : Value) (n : Nat) (l : List Int) (K : Nat) : Prop :=
  ∃ vals, wr.ownsRow w0.heap.size 31 1 v K vals ∧ vals.length = K ∧ Below w0.heap.size w0 wr ∧ ∀ q, q < K → ∃ Aq cq, vals[q]? = some (.slice Aq (abn n q) cq) ∧ Rk .u64 wr wr.heap.size Aq (abn n q) (upn l q) ∧ Ap Aq (abn n q) v
theorem Ol.nil (w : World) (n : Nat) (l : List Int) : Ol w w (.slice none 0 0) n l 0 := ⟨[], World.ownsRow_nil _ _ _ _, rfl, Below.refl _ _, fun q h => by omega⟩
theorem Ol.bel {w0 wr : World} {v : Value} {n K : Nat} {l : List Int} (h : Ol w0 wr v n l K) : Below w0.heap.size w0 wr := by obtain ⟨_, _, _, h3, _⟩ := h; exact h3
theorem Ol.below {w0 wr w1 : World} {v : Value} {n K : Nat} {l : List Int} (h : Ol w0 wr v n l K) (hb : Below wr.heap.size wr w1) : Ol w0 w1 v n l K := by
  obtain ⟨vals, h1, h2, h3, h4⟩ := h
  refine ⟨vals, own_below h1 hb, h2, upB h3 hb, fun q hq => ?_⟩
  obtain ⟨Aq, cq, e1, e2, e3⟩ := h4 q hq
  exact ⟨Aq, cq, e1, e2.up hb, e3⟩
theorem Ol.lt {w0 wr : World} {v : Value} {n K : Nat} {l : List Int} (h : Ol w0 wr v n l K) : ∀ g, v.ownBlock = some g → g < wr.heap.size := by
  obtain ⟨vals, h1, _⟩ := h
  intro g hg
  exact (h1.lt g hg).2
theorem Ol.freshB {w0 w w2 : World} {v : Value} {n K m : Nat} {l : List Int} {A : Option Addr} (h : Ol w0 w v n l K) (_hb : Below w.heap.size w w2) (hf : Fr w.heap.size A m) : Ap A m v := by
  intro h0 b off e hb
  have h1 := hf h0 b off none e
  have := h.lt b hb.symm
  omega
theorem Ap.app {wr : World} {v : Value} {A : Option Addr} {m g K cap : Nat} {zs : List Int} (a : Ap A m v) (r : Rk .u64 wr wr.heap.size A m zs) (hat : v.ownBlock = some g ∨ g = wr.heap.size + 1) : Ap A m (.slice (some ⟨g, 0, none⟩) K cap) := by
  intro h0 b off e he
  have he : some b = some g := he
  injection he with he
  subst he
  rcases hat with h1 | h1
  · exact a h0 b off e h1.symm
  · obtain ⟨b', off', e', hlt', _⟩ := r.2.2.1 h0
    rw [e] at e'
    injection e' with e'
    injection e' with e1
    omega
theorem Ol.fresh {w0 w : World} {v : Value} {n K m : Nat} {l : List Int} {A : Option Addr} (h : Ol w0 w v n l K) (hf : Fr w.heap.size A m) : Ap A m v := by
  intro h0 b off e hb
  have h1 := hf h0 b off none e
  have := h.lt b hb.symm
  omega
theorem Ol.app {w0 wr w9 : World} {v : Value} {n K m g cap c2 : Nat} {l : List Int} {A2 : Option Addr} {vals : List Value} {o : Obj} (h : Ol w0 wr v n l K) (hm : m = abn n K)
    (hr : Rk .u64 wr wr.heap.size A2 m (upn l K)) (ha : Ap A2 m v) (hv : wr.ownsRow w0.heap.size 31 1 v K vals) (hl : vals.length = K) (hall : ∀ q, q < K → ∃ Aq cq, vals[q]? = some (.slice Aq (abn n q) cq) ∧ Rk .u64 wr wr.heap.size Aq (abn n q) (upn l q) ∧ Ap Aq (abn n q) v)
    (ho : w9.ownsRow w0.heap.size 31 1 (.slice (some ⟨g, 0, none⟩) (K + 1) cap) (K + 1) (vals ++ [.slice A2 m c2])) (hg : (wr.alloc o).grownBy w9 v.ownBlock) (hat : v.ownBlock = some g ∨ g = wr.heap.size + 1) : Ol w0 w9 (.slice (some ⟨g, 0, none⟩) (K + 1) cap) n l (K + 1) := by
  have hb := h.bel
  have hlt := hv.lt
  refine ⟨_, ho, by simp [hl], (hb.alloc hb.size o).grown hg (by have := hb.size; simp; omega) (fun k hk => (hlt k hk).1), fun q hq => ?_⟩
  rcases Nat.lt_or_ge q K with h1 | h1
  · obtain ⟨Aq, cq, e1, e2, e3⟩ := hall q h1
    exact ⟨Aq, cq, by rw [List.getElem?_append_left (by omega)]; exact e1, e2.grown e3 hg, e3.app e2 hat⟩
  · have : q = K := by omega
    subst this
    subst hm
    exact ⟨A2, c2, by rw [List.getElem?_append_right (by omega), hl]; simp, hr.grown ha hg, ha.app hr hat⟩
theorem sl_info : (Try.prog.info? 31).map (fun i => (i.zero, i.size, i.bytes)) = some (some (.slice none 0 0), 1, 24) := by kernel_rfl
theorem one_slice (A : Option Addr) (n c : Nat) : ∀ u ∈ [Value.slice A n c], u.oneCell' = true := by
  intro u hu; simp at hu; subst hu; rfl
set_option maxHeartbeats 2000000 in
set_option maxRecDepth 100000 in
theorem levels37 (A : Option Addr) (n c : Nat) (l : List Int) (w : World) (h : Rk .u64 w w.heap.size A n l) (h1 : 1 ≤ n) (hn4 : n ≤ 4096) :
    Calls Try.prog 37 #[.slice A n c] w fun e w' => ∃ v, e = .returned v ∧ Ol w w' v n l (ht n + 1) := by
  have HL := Lib.hid h.1
  have HR := Lib.hid h
  have hn := h.2.1
  clear h
  have hht := ht_le n
  obtain ⟨i0, hi0, hz0, hs0, hb0'⟩ := info_parts sl_info
  have HO0 := Lib.hid (Ol.nil w n l)
  have C4 : Hid (0 + 1 ≤ maxLen) := Lib.hid (by unfold maxLen; omega)
  have C5 : Hid ((0 + 1) * 24 ≤ 140737488355328) := Lib.hid (by omega)
  have HV0 : Hid (w.ownsRow w.heap.size 31 1 (.slice none 0 0) 0 []) := Lib.hid (World.ownsRow_nil _ _ _ _)
  go_enter Try.func37, Try.ntmps37
  go_wp2_with (at_builtin; refine wpList_append_lies _ rfl _ _ 56 rfl w.heap.size 31 i0 (.slice none 0 0) 1 24 Try.underlying56 hi0 hz0 hs0 hb0' rfl (by omega) _ 0 [] rfl (HV0.out.alloc _) ⟨_, 0, none⟩ 1 1 [.slice A n c] rfl rfl (new_cell _ _ _ _ (by simp)) (one_slice A n c) (by omega) C4.out C5.out (by simp) _ rfl ?_)
  intro g cap w9 hown hgrow hat hlt9
  have hat0 : (Value.slice none 0 0).ownBlock = some g ∨ g = w.heap.size + 1 := by simpa using hat
  have HO9 := Lib.hid (Ol.app HO0.out (m := n) rfl HR.out (Ap.nil _ _) HV0.out rfl (fun q h => by omega) hown hgrow hat0)
  have HK9 := Lib.hid (HR.out.grown (Ap.nil A n) hgrow)
  clear hown hgrow hat hlt9 C4 C5 HV0 HO0
  have HA9 : Hid (Ap A n (.slice (some ⟨g, 0, none⟩) (0 + 1) cap)) := Lib.hid ((Ap.nil A n).app HR.out (hat0 : (Value.slice none 0 0).ownBlock = some g ∨ g = w.heap.size + 1))
  clear hat0
  go_wp2_with fail
  go_loopw [3, 4] (fun v lv wr => ∃ (k : Nat) (A' : Option Addr) (c' m g cap : Nat), lv = .slice A' m c' ∧ v = .slice (some ⟨g, 0, none⟩) (k + 1) cap ∧ k ≤ ht n ∧ Hid (abn n k = m) ∧ Hid (Rk .u64 wr wr.heap.size A' m (upn l k)) ∧ Hid (Ol w wr v n l (k + 1)) ∧ Hid (Ap A' m v)) (fun _ lv _ => lenv lv)
  case atStart => exact ⟨0, A, c, n, g, cap, rfl, rfl, Nat.zero_le _, Lib.hid rfl, HK9, HO9, HA9⟩
  case round =>
    obtain ⟨k, A', c', m, g, cap, rfl, rfl, hk, HM, HK, HO, HA⟩ := hrel
    by_cases hlt : 1 < m
    · have hltI : (1 : Int) < (m : Int) := by omega
      have hkk : k < ht n := by
        rcases Nat.lt_or_ge k (ht n) with h3 | h3
        · exact h3
        · have := abn_one h1 hk h3; have := HM.out; omega
      have hab := ab_le hlt
      have hm4 : m ≤ 4096 := by have := HM.out; have := abn_le n k; omega
      have HM2 : Hid (ab m = abn n (k + 1)) := Lib.hid (by rw [abn_next, HM.out])
      go_wp2_with fail
      refine (up32 A' m c' (upn l k) _ HK.out hm4).mono ?_
      rintro e w2 ⟨A2, c2, rfl, ⟨hr, hf⟩, hb⟩
      have HO2 := Lib.hid (HO.out.below hb)
      have HA2 : Hid (Ap A2 (ab m) (.slice (some ⟨g, 0, none⟩) (k + 1) cap)) := Lib.hid (HO.out.freshB hb hf)
      have HK2 : Hid (Rk .u64 w2 w2.heap.size A2 (ab m) (upn l (k + 1))) := Lib.hid hr
      clear hr hf hb HO HK HA
      obtain ⟨vals, v1, v2, v3, v4⟩ := HO2.out
      have V1 := Lib.hid v1
      have V2 := Lib.hid v2
      have V4 := Lib.hid v4
      have hsz := v3.size
      clear v1 v2 v3 v4
      have C4 : Hid (k + 1 + 1 ≤ maxLen) := Lib.hid (by unfold maxLen; omega)
      have C5 : Hid ((k + 1 + 1) * 24 ≤ 140737488355328) := Lib.hid (by omega)
      go_wp2_with (at_builtin; refine wpList_append_lies _ rfl _ _ 56 rfl w.heap.size 31 i0 (.slice none 0 0) 1 24 Try.underlying56 hi0 hz0 hs0 hb0' rfl (by omega) _ (k + 1) vals rfl (V1.out.alloc _) ⟨_, 0, none⟩ 1 1 [.slice A2 (ab m) c2] rfl rfl (new_cell _ _ _ _ (by simp)) (one_slice A2 (ab m) c2) (by omega) C4.out C5.out (by simp; omega) _ rfl ?_)
      intro g9 cap9 w9 hown hgrow hat hlt9
      have hat0 : (Value.slice (some ⟨g, 0, none⟩) (k + 1) cap).ownBlock = some g9 ∨ g9 = w2.heap.size + 1 := by simpa using hat
      have HO9 := Lib.hid (Ol.app HO2.out HM2.out HK2.out HA2.out V1.out V2.out V4.out hown hgrow hat0)
      have HK9 := Lib.hid (HK2.out.grown HA2.out hgrow)
      have HA9 : Hid (Ap A2 (ab m) (.slice (some ⟨g9, 0, none⟩) (k + 1 + 1) cap9)) := Lib.hid (HA2.out.app HK2.out hat0)
      clear hown hgrow hat hat0 hlt9
      go_wp2_with fail
      go_roundw
      case rel => exact ⟨k + 1, A2, c2, ab m, g9, cap9, rfl, rfl, by omega, Lib.hid HM2.out.symm, HK9, HO9, HA9⟩
      case measure => simp [lenv]; omega
    · have hltI : ¬ (1 : Int) < (m : Int) := by omega
      have hkk : k = ht n := abn_end hk (by rw [HM.out]; exact hlt)
      go_wp2_with fail
      go_ret
      rw [← hkk]
      first | exact HO.out | exact ⟨_, rfl, HO.out⟩
end Go.Proofs.Ytbhdghopdhehdaa.Wk
