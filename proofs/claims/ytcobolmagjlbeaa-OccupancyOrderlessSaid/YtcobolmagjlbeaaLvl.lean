/- Levels of the layer. Conditions: the slices read as lists; at most 1048576 counts. -/
import Derived.Test.YtcobolmagjlbeaaCts
import Derived.Deep.RegionWith
namespace Go.Proofs.Ytcobolmagjlbeaa.Mt
/-- the level during period k -/
def lv (s : Sc) (cs : List Int) : Nat → Int
  | 0 => 0
  | k + 1 => ((nx s (lv s cs k) (at_ cs k) : Nat) : Int)
/-- the levels below k, and zeros -/
def lvk (s : Sc) (cs : List Int) (m k : Nat) : List Int := (List.range m).map fun i => if i < k then lv s cs i else 0
def lvS (s : Sc) (cs : List Int) : List Int := if chS s ≠ 0 then [] else lvk s cs cs.length cs.length
theorem lvk_len (s : Sc) (cs : List Int) (m k : Nat) : (lvk s cs m k).length = m := by simp [lvk]
theorem lvk_at (s : Sc) (cs : List Int) {m k i : Nat} (h : i < k) (hm : i < m) : at_ (lvk s cs m k) i = lv s cs i := by simp [lvk, at_, hm, h]
theorem lvk_one (s : Sc) (cs : List Int) (m : Nat) : List.replicate m 0 = lvk s cs m 1 := by
  apply List.ext_getElem
  · simp [lvk]
  · intro i h1 h2
    simp [lvk]
    intro h
    simp [h, lv]
theorem lvk_next (s : Sc) (cs : List Int) {m k : Nat} : lvk s cs m (k + 1) = (lvk s cs m k).set k (lv s cs k) := by
  apply List.ext_getElem
  · simp [lvk]
  · intro i h1 h2
    simp only [lvk, List.getElem_map, List.getElem_range, List.getElem_set]
    by_cases h : k = i
    · subst h; simp
    · have : (i < k + 1) ↔ (i < k) := by omega
      simp [h, this]
theorem lvk_over (s : Sc) (cs : List Int) {m k : Nat} (h : m ≤ k) : lvk s cs m k = lvk s cs m m := by
  apply List.map_congr_left
  intro i hi
  have := List.mem_range.1 hi
  have h1 : i < k := by omega
  simp [h1, this]
end Go.Proofs.Ytcobolmagjlbeaa.Mt
namespace Go.Proofs.Ytcobolmagjlbeaa.Wk
open Go.RowKit
open Go.Proofs.Ytcobolmagjlbeaa.Mt

set_option maxHeartbeats 4000000 in
set_option maxRecDepth 100000 in
theorem levels19 (p : Int) (A1 A2 A3 : Option Addr) (n1 n2 n3 c1 c2 c3 : Nat) (up dn pt : List Int) (A : Option Addr) (m c : Nat) (cs : List Int) (w : World) (h1 : Ri w w.heap.size A1 n1 up) (h2 : Ri w w.heap.size A2 n2 dn) (h3 : Ri w w.heap.size A3 n3 pt) (ht : Ri w w.heap.size A m cs) (hm : m ≤ 1048576) :
    Calls Try.prog 19 #[.agg #[.int .i64 p, .slice A1 n1 c1, .slice A2 n2 c2, .slice A3 n3 c3], .slice A m c] w fun e w' => (∃ A' k c', e = .returned (.slice A' k c') ∧ Ri w' w'.heap.size A' k (lvS ⟨p, up, dn, pt⟩ cs)) ∧ Below w.heap.size w w' := by
  have hlm : cs.length = m := ht.1
  have hn1 := h1.2.1
  have hn3 := h3.2.1
  have hA0 := b1 w (.cells #[.int .i64 p, .slice A1 n1 c1, .slice A2 n2 c2, .slice A3 n3 c3] 24)
  have HBx := Lib.hid (Bx.new w 24 #[.int .i64 p, .slice A1 n1 c1, .slice A2 n2 c2, .slice A3 n3 c3])
  have H1 := Lib.hid (h1.up hA0)
  have H2 := Lib.hid (h2.up hA0)
  have H3 := Lib.hid (h3.up hA0)
  have HT := Lib.hid (ht.up hA0)
  obtain ⟨ch, hch⟩ : ∃ ch, chS ⟨p, up, dn, pt⟩ = ch := ⟨_, rfl⟩
  have HP : Hid (lvS ⟨p, up, dn, pt⟩ cs = if ch ≠ 0 then [] else lvk ⟨p, up, dn, pt⟩ cs m m) := Lib.hid (by simp only [lvS, hch, hlm])
  have HQ : Hid (ch = 0 → n1 ≤ n2) := Lib.hid (fun h => by have := (ch_eq (s := ⟨p, up, dn, pt⟩) (hch.trans h)).2.1; have e1 := h1.1; have e2 := h2.1; simp only at this; omega)
  have HC := Lib.hid hch
  clear h1 h2 h3 ht hlm hch
  go_enter Try.func19, Try.ntmps19
  go_wp2_with fail
  refine (check_any p A1 A2 A3 n1 n2 n3 c1 c2 c3 up dn pt _ H1.out H2.out H3.out).mono ?_
  rintro e w1 ⟨rfl, hb1⟩
  have hA1 := upB hA0 hb1
  obtain ⟨b0, b1', b2, b3⟩ := (HBx.out.next hb1).cells4
  rw [HC.out]
  by_cases hc : ch = 0
  · subst hc
    have hpp := HQ.out rfl
    have HE : Hid (lvS ⟨p, up, dn, pt⟩ cs = lvk ⟨p, up, dn, pt⟩ cs m m) := Lib.hid (by rw [HP.out]; simp)
    have hmk := fun w' => make_ints w' m hm
    have HBx1 := Lib.hid (HBx.out.next hb1)
    have HT1 := Lib.hid (HT.out.up hb1)
    have HU1 := Lib.hid (H1.out.up hb1)
    have HU2 := Lib.hid (H2.out.up hb1)
    have hw1 : w.heap.size < w1.heap.size := HBx1.out.lt
    clear b0 b1' b2 b3
    go_wp2_with fail
    clear hmk
    go_loopw [6] (fun i wr => ∃ j : Nat, 1 ≤ j ∧ j ≤ m + 1 ∧ i = .int .i64 j ∧ Below w1.heap.size w1 wr ∧ Hid (Bx wr w1.heap.size 3 (ints (lvk ⟨p, up, dn, pt⟩ cs m j)).toArray)) (fun i _ => m + 1 - (intOf i).toNat)
    case atStart => exact ⟨1, Nat.le_refl _, by omega, rfl, b1 _ _, Lib.hid (by have := Bx.new w1 3 (ints (List.replicate m 0)).toArray; rw [lvk_one ⟨p, up, dn, pt⟩ cs m] at this ⊢; exact this)⟩
    case round =>
      obtain ⟨j, hj1, hj, rfl, hb, HK⟩ := hrel
      by_cases hlt : j < m
      · obtain ⟨i, rfl⟩ : ∃ i, j = i + 1 := ⟨j - 1, by omega⟩
        obtain ⟨b0, b1', b2, b3⟩ := (HBx1.out.next hb).cells4
        obtain ⟨bb, off, rfl, _, d1⟩ := (HT1.out.up hb).get (i := i) (by omega)
        have hltI : (i : Int) < (m : Int) := by omega
        have hltJ : (i : Int) + 1 < (m : Int) := by omega
        have E1 := Lib.hid (IntWalk.i64_in ((i : Int) + 1 - 1) (by omega))
        have E2 : Hid ((i : Int) + 1 - 1 = i) := Lib.hid (by omega)
        have hcl := HK.out.bcell (i := i) (by rw [lvk_len]; omega)
        rw [lvk_at _ _ (by omega) (by omega)] at hcl
        have hfr := HK.out.free (i + 1)
        have HD := Lib.hid (lvk_next ⟨p, up, dn, pt⟩ cs (m := m) (k := i + 1))
        have hlv : Hid (((nx ⟨p, up, dn, pt⟩ (lv ⟨p, up, dn, pt⟩ cs i) (at_ cs i) : Nat) : Int) = lv ⟨p, up, dn, pt⟩ cs (i + 1)) := Lib.hid rfl
        go_wp2_with fail
        have e1 := E1.out
        rw [E2.out] at e1
        have HX1 := Lib.hid ((HU1.out.up hb).up (Below.refl wr.heap.size wr).drew)
        have HX2 := Lib.hid ((HU2.out.up hb).up (Below.refl wr.heap.size wr).drew)
        have HKd := Lib.hid (HK.out.next (Below.refl wr.heap.size wr).drew)
        go_region_with (go_at_call 25; refine (next_any p A1 A2 A3 n1 n2 n3 c1 c2 c3 up dn _ _ _ HX1.out HX2.out hpp pt).mono ?_; rintro e w2 ⟨rfl, hb2⟩; rw [hlv.out]; have HK2 := Lib.hid (HKd.out.next hb2); have hfr2 := HK2.out.free (i + 1); have hcl2 := HK2.out.bcell (i := i + 1) (by rw [lvk_len]; omega))
        all_goals go_wp2_with fail
        all_goals go_roundw
        all_goals first
          | exact ⟨i + 1 + 1, by omega, by omega, by go_num, (upB hb.drew hb2).setCell (p := ⟨w1.heap.size, i + 1, none⟩) (Nat.le_refl _) _, Lib.hid (by rw [HD.out]; exact HK2.out.put (i + 1) _)⟩
          | (simp [intOf]; omega)
      · have hjm : m ≤ j := by omega
        have hltn : ¬ (j : Int) < (m : Int) := by omega
        rw [lvk_over _ _ hjm] at HK
        go_wp2_with fail
        go_ret
        have hgl := Ri.of_block (zs := lvk ⟨p, up, dn, pt⟩ cs m m) HK.out HK.out.lt (by rw [lvk_len]; omega)
        rw [lvk_len] at hgl
        refine ⟨⟨some ⟨w1.heap.size, 0, none⟩, m, ⟨m, rfl⟩, ?_⟩, upB hA1 hb⟩
        rw [HE.out]; exact hgl
  · have HE : Hid (lvS ⟨p, up, dn, pt⟩ cs = []) := Lib.hid (by rw [HP.out, if_pos hc])
    have e1 : (ch == 0) = false := by simp [hc]
    have e2 : (ch != 0) = true := by simp [hc]
    clear hc
    go_wp2_with fail
    go_ret
    exact ⟨⟨_, _, _, rfl, by rw [HE.out]; exact Ri.none _ _⟩, hA1⟩
end Go.Proofs.Ytcobolmagjlbeaa.Wk
