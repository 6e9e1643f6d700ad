/- Levels of the reference. Conditions: the slices read as lists; at most 1048576 counts. -/
import Derived.Test.YtcobolmagjlbeaaLvl
import Derived.Laws.AppendOwn
import Derived.Maps.AppendAt
import Derived.Deep.AppendLies
import Derived.Deep.RegionWith
namespace Go.Proofs.Ytcobolmagjlbeaa.Mt
def lvl (s : Sc) (cs : List Int) (k : Nat) : List Int := (List.range k).map (lv s cs)
theorem lvl_len (s : Sc) (cs : List Int) (k : Nat) : (lvl s cs k).length = k := by simp [lvl]
theorem lvl_next (s : Sc) (cs : List Int) (k : Nat) : lvl s cs (k + 1) = lvl s cs k ++ [lv s cs k] := by simp [lvl, List.range_succ]
theorem lvl_all (s : Sc) (cs : List Int) (m : Nat) : lvk s cs m m = lvl s cs m := by
  apply List.map_congr_left
  intro i hi
  have := List.mem_range.1 hi
  simp [this]
end Go.Proofs.Ytcobolmagjlbeaa.Mt
namespace Go.Proofs.Ytcobolmagjlbeaa.Wk
open Go.RowKit
open Go.Proofs.Ytcobolmagjlbeaa.Mt
theorem new_cell (W : World) (x : Value) (t : TypeId) (n : Nat) (h : n = W.heap.size) : ∀ j u, [x][j]? = some u → (W.alloc (.cells #[x] t)).cell? ((⟨n, 0, none⟩ : Addr).add j) = some u := by
  subst h; exact cell_one_new _ _ _
/-- nothing that was in w0 is written, and v owns its row of numbers, above w0's blocks -/
def Ow (w0 wr : World) (v : Value) (xs : List Int) : Prop := Below w0.heap.size w0 wr ∧ wr.ownsRow w0.heap.size 3 1 v xs.length (ints xs)
theorem own_below {w w' : World} {base : Nat} {e : TypeId} {size : Nat} {v : Value} {n : Nat} {xs : List Value} (h : w.ownsRow base e size v n xs) (hb : Below w.heap.size w w') : w'.ownsRow base e size v n xs := by
  refine ⟨h.1, ?_⟩
  rcases h.2 with h0 | ⟨g, cap, cur, h1, h2, h3, h4⟩
  · exact .inl h0
  · have hlt : g < w.heap.size := Bx.lt (cs := cur) (t := e) h3
    exact .inr ⟨g, cap, cur, h1, h2, (hb.block g hlt).trans h3, h4⟩
section
variable {w0 wr w1 : World} {v : Value} {xs : List Int}
theorem Ow.nil (w : World) : Ow w w (.slice none 0 0) [] := ⟨Below.refl _ _, World.ownsRow_nil _ _ _ _⟩
theorem Ow.below (h : Ow w0 wr v xs) (hb : Below wr.heap.size wr w1) : Ow w0 w1 v xs := ⟨upB h.1 hb, own_below h.2 hb⟩
theorem Ow.app {v' : Value} {x : Int} {n : Nat} (h : Ow w0 wr v xs) (hn : xs.length = n) {o : Obj} (ho : w1.ownsRow w0.heap.size 3 1 v' (n + 1) (ints xs ++ [Value.int .i64 x])) (hg : (wr.alloc o).grownBy w1 v.ownBlock) : Ow w0 w1 v' (xs ++ [x]) := by
  subst hn
  have h2 : wr.ownsRow w0.heap.size 3 1 v xs.length (ints xs) := h.2
  have hlt := h2.lt
  refine ⟨(h.1.alloc h.1.size o).grown hg (by have := h.1.size; simp; omega) (fun k hk => ?_), by simpa [ints] using ho⟩
  exact (hlt k hk).1
theorem Ow.out (h : Ow w0 wr v xs) (hl : xs.length ≤ 9223372036854775807) : ∃ A c, v = .slice A xs.length c ∧ Ri wr wr.heap.size A xs.length xs := by
  have h : wr.ownsRow w0.heap.size 3 1 v xs.length (ints xs) := h.2
  rcases Nat.eq_zero_or_pos xs.length with h0 | h0
  · have hz : xs = [] := List.eq_nil_of_length_eq_zero h0
    subst hz
    rcases h.2 with ⟨hv, _⟩ | ⟨g, cap, cur, hv, _⟩
    · exact ⟨Option.none, 0, hv, rfl, by simp, fun h => absurd h (by simp)⟩
    · exact ⟨_, cap, hv, rfl, by simp, fun h => absurd h (by simp)⟩
  · obtain ⟨g, cap, hv, _, hlt⟩ := h.form h0
    subst hv
    refine ⟨_, cap, rfl, rfl, hl, fun _ => ⟨g, 0, rfl, hlt, fun i hi => ?_⟩⟩
    have := h.cells (g := g) rfl i (.int .i64 (at_ xs i)) (ints_at xs i hi)
    have e : (⟨g, 0, Option.none⟩ : Addr).add i = ⟨g, 0 + i, Option.none⟩ := by unfold Addr.add; by_cases h : i = 0 <;> simp [h]
    rw [e] at this
    exact this
end

set_option maxHeartbeats 4000000 in
set_option maxRecDepth 100000 in
theorem levels20 (p : Int) (A1 A2 A3 : Option Addr) (n1 n2 n3 c1 c2 c3 : Nat) (up dn pt : List Int) (A : Option Addr) (m c : Nat) (cs : List Int) (w : World) (h1 : Ri w w.heap.size A1 n1 up) (h2 : Ri w w.heap.size A2 n2 dn) (h3 : Ri w w.heap.size A3 n3 pt) (ht : Ri w w.heap.size A m cs) (hm : m ≤ 1048576) :
    Calls Try.prog 20 #[.agg #[.int .i64 p, .slice A1 n1 c1, .slice A2 n2 c2, .slice A3 n3 c3], .slice A m c] w fun e w' => (∃ A' k c', e = .returned (.slice A' k c') ∧ Ri w' w'.heap.size A' k (lvS ⟨p, up, dn, pt⟩ cs)) ∧ Below w.heap.size w w' := by
  have hlm : cs.length = m := ht.1
  have hn1 := h1.2.1
  have hn3 := h3.2.1
  have hA0 := b1 w (.cells #[.int .i64 p, .slice A1 n1 c1, .slice A2 n2 c2, .slice A3 n3 c3] 24)
  have HBx := Lib.hid (Bx.new w 24 #[.int .i64 p, .slice A1 n1 c1, .slice A2 n2 c2, .slice A3 n3 c3])
  have H1 := Lib.hid (h1.up hA0)
  have H2 := Lib.hid (h2.up hA0)
  have H3 := Lib.hid (h3.up hA0)
  have HT := Lib.hid (ht.up hA0)
  obtain ⟨ch, hch⟩ : ∃ ch, chS ⟨p, up, dn, pt⟩ = ch := ⟨_, rfl⟩
  have HP : Hid (lvS ⟨p, up, dn, pt⟩ cs = if ch ≠ 0 then [] else lvl ⟨p, up, dn, pt⟩ cs m) := Lib.hid (by simp only [lvS, hch, hlm, lvl_all])
  have HN : Hid (ch = 0 → ∀ l x, nxS ⟨p, up, dn, pt⟩ l x = ((nx ⟨p, up, dn, pt⟩ l x : Nat) : Int)) := Lib.hid (fun h l x => by simp [nxS, hch, h])
  have HC := Lib.hid hch
  obtain ⟨i0, hi0, hz0, hs0, hb0'⟩ := info_parts info3
  clear h1 h2 h3 ht hlm hch
  go_enter Try.func20, Try.ntmps20
  go_wp2_with fail
  refine (Check_any p A1 A2 A3 n1 n2 n3 c1 c2 c3 up dn pt _ H1.out H2.out H3.out).mono ?_
  rintro e w1 ⟨rfl, hb1⟩
  have hA1 := upB hA0 hb1
  obtain ⟨b0, b1', b2, b3⟩ := (HBx.out.next hb1).cells4
  rw [HC.out]
  by_cases hc : ch = 0
  · subst hc
    have HNX := HN.out rfl
    have HNX := Lib.hid HNX
    have HE : Hid (lvS ⟨p, up, dn, pt⟩ cs = lvl ⟨p, up, dn, pt⟩ cs m) := Lib.hid (by rw [HP.out]; simp)
    have HBx1 := Lib.hid (HBx.out.next hb1)
    have HT1 := Lib.hid (HT.out.up hb1)
    have HU1 := Lib.hid (H1.out.up hb1)
    have HU2 := Lib.hid (H2.out.up hb1)
    have HU3 := Lib.hid (H3.out.up hb1)
    have hw1 : w.heap.size < w1.heap.size := HBx1.out.lt
    clear b0 b1' b2 b3 H1 H2 H3 HT HBx HP HN
    go_wp2_with fail
    go_loopw [5, 6, 7] (fun l g i wr => ∃ j : Nat, j ≤ m ∧ i = .int .i64 j ∧ g = .int .i64 (lv ⟨p, up, dn, pt⟩ cs j) ∧ Hid (Ow w1 wr l (lvl ⟨p, up, dn, pt⟩ cs j))) (fun _ _ i _ => m - (intOf i).toNat)
    case atStart => exact ⟨0, Nat.zero_le _, rfl, rfl, Lib.hid (Ow.nil _)⟩
    case round =>
      obtain ⟨j, hj, rfl, rfl, HK⟩ := hrel
      by_cases hlt : j < m
      · have hltI : (j : Int) < (m : Int) := by omega
        have HO := Lib.hid HK.out.2
        have hsz := HK.out.1.size
        have HD := Lib.hid (lvl_next ⟨p, up, dn, pt⟩ cs j)
        have hlen := lvl_len ⟨p, up, dn, pt⟩ cs j
        go_wp2_with (at_builtin; refine wpList_append_own _ rfl _ _ 22 rfl w1.heap.size 3 i0 (.int .i64 0) 1 8 Try.underlying22 hi0 hz0 hs0 hb0' rfl (by omega) _ _ _ rfl (HO.out.alloc _) ⟨_, 0, none⟩ 1 1 [.int .i64 (lv ⟨p, up, dn, pt⟩ cs j)] rfl rfl ?c1 ?c2 ?c3 ?c4 ?c5 ?_)
        case c1 => exact new_cell _ _ _ _ (by simp)
        case c2 => intro u hu; simp at hu; subst hu; rfl
        case c3 => unfold maxLen; omega
        case c4 => omega
        case c5 => simp; omega
        intro v' w9 hown hgrow _
        have HK9 := Lib.hid (HK.out.app hlen hown hgrow)
        clear hown hgrow HO
        have h9 := HK9.out.1
        obtain ⟨b0, b1', b2, b3⟩ := (HBx1.out.next h9).cells4
        obtain ⟨bb, off, rfl, _, d1⟩ := (HT1.out.up h9).get hlt
        have HX1 := Lib.hid ((HU1.out.up h9).up (Below.refl w9.heap.size w9).drew)
        have HX2 := Lib.hid ((HU2.out.up h9).up (Below.refl w9.heap.size w9).drew)
        have HX3 := Lib.hid ((HU3.out.up h9).up (Below.refl w9.heap.size w9).drew)
        have hlv : Hid (nxS ⟨p, up, dn, pt⟩ (lv ⟨p, up, dn, pt⟩ cs j) (at_ cs j) = lv ⟨p, up, dn, pt⟩ cs (j + 1)) := Lib.hid (HNX.out _ _)
        go_wp2_with fail
        go_region_with (go_at_call 17; refine (next17 p A1 A2 A3 n1 n2 n3 c1 c2 c3 up dn pt _ _ _ HX1.out HX2.out HX3.out).mono ?_; rintro e w2 ⟨rfl, hb2⟩; rw [hlv.out])
        all_goals go_wp2_with fail
        all_goals go_roundw
        all_goals first
          | exact ⟨j + 1, by omega, by go_num, rfl, Lib.hid (by rw [HD.out]; exact (HK9.out.below (Below.refl w9.heap.size w9).drew).below hb2)⟩
          | (simp [intOf]; omega)
      · have hjm : j = m := by omega
        subst hjm
        obtain ⟨A', c', hv, hR⟩ := HK.out.out (by rw [lvl_len]; omega)
        rw [lvl_len] at hv hR
        subst hv
        have hb := HK.out.1
        go_wp2_with fail
        go_ret
        refine ⟨⟨A', j, c', rfl, ?_⟩, upB hA1 hb⟩
        rw [HE.out]; exact hR
  · have HE : Hid (lvS ⟨p, up, dn, pt⟩ cs = []) := Lib.hid (by rw [HP.out, if_pos hc])
    have e1 : (ch == 0) = false := by simp [hc]
    have e2 : (ch != 0) = true := by simp [hc]
    clear hc
    go_wp2_with fail
    go_ret
    exact ⟨⟨_, _, _, rfl, by rw [HE.out]; exact Ri.none _ _⟩, hA1⟩
end Go.Proofs.Ytcobolmagjlbeaa.Wk
