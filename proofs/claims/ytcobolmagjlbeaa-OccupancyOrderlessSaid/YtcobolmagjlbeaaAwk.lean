/- awake returns true, and writes nothing that was there. No condition. -/
import Derived.Test.YtcobolmagjlbeaaAt
import Derived.Test.YtcobolmagjlbeaaLvr
namespace Go.Proofs.Ytcobolmagjlbeaa.Wk
open Go.RowKit
open Go.Proofs.Ytcobolmagjlbeaa.Mt
theorem k0 : chS ⟨60, [10, 20], [5, 15], [1000, 1500, 2000]⟩ = 0 := by decide +kernel
theorem k1 : nxS ⟨60, [10, 20], [5, 15], [1000, 1500, 2000]⟩ 0 25 = 2 := by decide +kernel
theorem k2 : nxS ⟨60, [10, 20], [5, 15], [1000, 1500, 2000]⟩ 2 14 = 1 := by decide +kernel
theorem k3 : nxS ⟨60, [10, 20], [5, 15], [1000, 1500, 2000]⟩ 2 4 = 0 := by decide +kernel
theorem k4 : lvS ⟨60, [10, 20], [5, 15], [1000, 1500, 2000]⟩ [10, 5, 4, 30, 0] = [0, 1, 1, 0, 2] := by decide +kernel
theorem k5 : ctS ⟨60, [10, 20], [5, 15], [1000, 1500, 2000]⟩ [0, 59, 60, 130] 0 2 = [2, 1] := by decide +kernel
theorem k6 : aS ⟨60, [10, 20], [5, 15], [1000, 1500, 2000]⟩ [70, 70, 70, 70, 70, 70, 70, 70, 70, 70] 119 = 0 := by decide +kernel
theorem k7 : aS ⟨60, [10, 20], [5, 15], [1000, 1500, 2000]⟩ [70, 70, 70, 70, 70, 70, 70, 70, 70, 70] 120 = 1 := by decide +kernel
theorem k8 : aS ⟨60, [10, 20], [5, 15], [1000, 1500, 2000]⟩ [70, 70, 70, 70, 70, 70, 70, 70, 70, 70] 180 = 0 := by decide +kernel
theorem k9 : ptS ⟨60, [10, 20], [5, 15], [1000, 1500, 2000]⟩ 1 = 1500 := by decide +kernel
theorem k10 : ptS ⟨60, [10, 20], [5, 15], [1000, 1500, 2000]⟩ 3 = 1000 := by decide +kernel
/-- the example's blocks -/
structure Aw (w0 wr : World) : Prop where
  bel : Below w0.heap.size w0 wr
  u : Bx wr w0.heap.size 3 (ints [10, 20]).toArray
  d : Bx wr (w0.heap.size + 1) 3 (ints [5, 15]).toArray
  p : Bx wr (w0.heap.size + 1 + 1) 3 (ints [1000, 1500, 2000]).toArray
  b : Bx wr (w0.heap.size + 1 + 1 + 1) 24 #[.int .i64 60, .slice (some ⟨w0.heap.size, 0, none⟩) 2 2, .slice (some ⟨w0.heap.size + 1, 0, none⟩) 2 2, .slice (some ⟨w0.heap.size + 1 + 1, 0, none⟩) 3 3]
  t : Bx wr (w0.heap.size + 1 + 1 + 1 + 1) 3 (ints [70, 70, 70, 70, 70, 70, 70, 70, 70, 70]).toArray
section
variable {w0 wr w1 : World}
theorem Aw.next (h : Aw w0 wr) (hb : Below wr.heap.size wr w1) : Aw w0 w1 := ⟨upB h.bel hb, h.u.next hb, h.d.next hb, h.p.next hb, h.b.next hb, h.t.next hb⟩
theorem Aw.ru (h : Aw w0 wr) : Ri wr wr.heap.size (some ⟨w0.heap.size, 0, none⟩) 2 [10, 20] := Ri.of_block h.u h.u.lt (by decide)
theorem Aw.rd (h : Aw w0 wr) : Ri wr wr.heap.size (some ⟨w0.heap.size + 1, 0, none⟩) 2 [5, 15] := Ri.of_block h.d h.d.lt (by decide)
theorem Aw.rp (h : Aw w0 wr) : Ri wr wr.heap.size (some ⟨w0.heap.size + 1 + 1, 0, none⟩) 3 [1000, 1500, 2000] := Ri.of_block h.p h.p.lt (by decide)
theorem Aw.rt (h : Aw w0 wr) : Ri wr wr.heap.size (some ⟨w0.heap.size + 1 + 1 + 1 + 1, 0, none⟩) 10 [70, 70, 70, 70, 70, 70, 70, 70, 70, 70] := Ri.of_block h.t h.t.lt (by decide)
end
theorem small_at {l : List Int} (h : ∀ z ∈ l, z ≤ 9223372036854775807) : ∀ i, at_ l i ≤ 9223372036854775807 := by
  intro i
  unfold at_
  by_cases hi : i < l.length
  · have : l.getD i 0 = l[i] := by simp [hi]
    rw [this]; exact h _ (List.getElem_mem hi)
  · have : l.getD i 0 = 0 := by simp [Nat.not_lt.1 hi]
    rw [this]; omega
theorem Bx.newAt {w : World} {g : Nat} {t : TypeId} {cs : Array Value} (h : g = w.heap.size) : Bx (w.alloc (.cells cs t)) g t cs := by subst h; exact Bx.new _ _ _

set_option maxHeartbeats 4000000 in
set_option maxRecDepth 100000 in
theorem awake_any (w : World) : Calls Try.prog 11 #[] w fun e w' => e = .returned (.bool true) ∧ Below w.heap.size w w' := by
  obtain ⟨W, hW⟩ : ∃ W, (((((w.alloc (.cells (ints [10, 20]).toArray 3)).alloc (.cells (ints [5, 15]).toArray 3)).alloc (.cells (ints [1000, 1500, 2000]).toArray 3)).alloc (.cells #[.int .i64 60, .slice (some ⟨w.heap.size, 0, none⟩) 2 2, .slice (some ⟨w.heap.size + 1, 0, none⟩) 2 2, .slice (some ⟨w.heap.size + 1 + 1, 0, none⟩) 3 3] 24)).alloc (.cells (ints [70, 70, 70, 70, 70, 70, 70, 70, 70, 70]).toArray 3)) = W := ⟨_, rfl⟩
  have HW0 : Hid (Aw w W) := by
    subst hW
    refine Lib.hid ⟨((((b1 w _).alloc (by simp) _).alloc (by simp; omega) _).alloc (by simp; omega) _).alloc (by simp; omega) _, ((((Bx.new w 3 _).old _).old _).old _).old _, (((Bx.newAt (by simp)).old _).old _).old _, ((Bx.newAt (by simp)).old _).old _, (Bx.newAt (by simp)).old _, Bx.newAt (by simp)⟩
  go_enter Try.func11, Try.ntmps11
  go_wp2_with fail
  rw [show (((((w.alloc (.cells #[.int .i64 10, .int .i64 20] 3)).alloc (.cells #[.int .i64 5, .int .i64 15] 3)).alloc (.cells #[.int .i64 1000, .int .i64 1500, .int .i64 2000] 3)).alloc (.cells #[.int .i64 60, .slice (some ⟨w.heap.size, 0, none⟩) 2 2, .slice (some ⟨w.heap.size + 1, 0, none⟩) 2 2, .slice (some ⟨w.heap.size + 1 + 1, 0, none⟩) 3 3] 24)).alloc (.cells #[.int .i64 70, .int .i64 70, .int .i64 70, .int .i64 70, .int .i64 70, .int .i64 70, .int .i64 70, .int .i64 70, .int .i64 70, .int .i64 70] 3)) = W from hW]
  clear hW
  refine (check_any 60 (some ⟨w.heap.size, 0, none⟩) (some ⟨w.heap.size + 1, 0, none⟩) (some ⟨w.heap.size + 1 + 1, 0, none⟩) 2 2 3 2 2 3 [10, 20] [5, 15] [1000, 1500, 2000] _ HW0.out.ru HW0.out.rd HW0.out.rp).mono ?_
  rintro e w1 ⟨he, hb⟩
  rw [k0] at he
  subst he
  have HW1 := Lib.hid (HW0.out.next hb)
  clear hb HW0
  obtain ⟨c0, c1, c2, c3⟩ := HW1.out.b.cells4
  have hlt := HW1.out.b.lt
  go_wp2_with fail
  clear c0 c1 c2 c3 hlt
  refine (next16 60 (some ⟨w.heap.size, 0, none⟩) (some ⟨w.heap.size + 1, 0, none⟩) (some ⟨w.heap.size + 1 + 1, 0, none⟩) 2 2 3 2 2 3 [10, 20] [5, 15] [1000, 1500, 2000] 0 25 _ HW1.out.ru HW1.out.rd HW1.out.rp).mono ?_
  rintro e w2 ⟨he, hb⟩
  rw [k1] at he
  subst he
  have HW2 := Lib.hid (HW1.out.next hb)
  clear hb HW1
  obtain ⟨c0, c1, c2, c3⟩ := HW2.out.b.cells4
  have hlt := HW2.out.b.lt
  go_wp2_with fail
  clear c0 c1 c2 c3 hlt
  refine (next16 60 (some ⟨w.heap.size, 0, none⟩) (some ⟨w.heap.size + 1, 0, none⟩) (some ⟨w.heap.size + 1 + 1, 0, none⟩) 2 2 3 2 2 3 [10, 20] [5, 15] [1000, 1500, 2000] 2 14 _ HW2.out.ru HW2.out.rd HW2.out.rp).mono ?_
  rintro e w3 ⟨he, hb⟩
  rw [k2] at he
  subst he
  have HW3 := Lib.hid (HW2.out.next hb)
  clear hb HW2
  obtain ⟨c0, c1, c2, c3⟩ := HW3.out.b.cells4
  have hlt := HW3.out.b.lt
  go_wp2_with fail
  clear c0 c1 c2 c3 hlt
  refine (next16 60 (some ⟨w.heap.size, 0, none⟩) (some ⟨w.heap.size + 1, 0, none⟩) (some ⟨w.heap.size + 1 + 1, 0, none⟩) 2 2 3 2 2 3 [10, 20] [5, 15] [1000, 1500, 2000] 2 4 _ HW3.out.ru HW3.out.rd HW3.out.rp).mono ?_
  rintro e w4 ⟨he, hb⟩
  rw [k3] at he
  subst he
  have HW4 := Lib.hid (HW3.out.next hb)
  clear hb HW3
  obtain ⟨c0, c1, c2, c3⟩ := HW4.out.b.cells4
  have hlt := HW4.out.b.lt
  go_wp2_with fail
  clear c0 c1 c2 c3 hlt
  have HWa := Lib.hid (HW4.out.next (b1 w4 (.cells (ints [10, 5, 4, 30, 0]).toArray 3)))
  have HS : Hid (Ri (w4.alloc (.cells (ints [10, 5, 4, 30, 0]).toArray 3)) (w4.alloc (.cells (ints [10, 5, 4, 30, 0]).toArray 3)).heap.size (some ⟨w4.heap.size, 0, none⟩) 5 [10, 5, 4, 30, 0]) := Lib.hid (Ri.of_block (Bx.new _ 3 _) (Bx.new _ 3 (ints [10, 5, 4, 30, 0]).toArray).lt (by decide))
  refine (levels19 60 (some ⟨w.heap.size, 0, none⟩) (some ⟨w.heap.size + 1, 0, none⟩) (some ⟨w.heap.size + 1 + 1, 0, none⟩) 2 2 3 2 2 3 [10, 20] [5, 15] [1000, 1500, 2000] (some ⟨w4.heap.size, 0, none⟩) 5 5 [10, 5, 4, 30, 0]  _ HWa.out.ru HWa.out.rd HWa.out.rp HS.out (by omega)).mono ?_
  rintro e w5 ⟨⟨A', k, c', rfl, hR⟩, hb⟩
  rw [k4] at hR
  obtain rfl : 5 = k := hR.1
  have HR := Lib.hid hR
  have HW5 := Lib.hid (HWa.out.next hb)
  clear hb hR HW4 HWa HS
  go_wp2_with fail
  have HWb := Lib.hid (HW5.out.next (b1 w5 (.cells (ints [0, 1, 1, 0, 2]).toArray 3)))
  refine (same_any A' (some ⟨w5.heap.size, 0, none⟩) 5 c' 5 [0, 1, 1, 0, 2] (w5.alloc (.cells (ints [0, 1, 1, 0, 2]).toArray 3)) (HR.out.up (b1 _ _)) (Ri.of_block (Bx.new _ 3 _) (Bx.new _ 3 (ints [0, 1, 1, 0, 2]).toArray).lt (by decide))).mono ?_
  rintro e w6 ⟨rfl, hb⟩
  have HW6 := Lib.hid (HWb.out.next hb)
  clear hb HW5 HWb HR
  obtain ⟨c0, c1, c2, c3⟩ := HW6.out.b.cells4
  have hlt := HW6.out.b.lt
  go_wp2_with fail
  clear c0 c1 c2 c3 hlt
  have HWa := Lib.hid (HW6.out.next (b1 w6 (.cells (ints [0, 59, 60, 130]).toArray 3)))
  have HS : Hid (Ri (w6.alloc (.cells (ints [0, 59, 60, 130]).toArray 3)) (w6.alloc (.cells (ints [0, 59, 60, 130]).toArray 3)).heap.size (some ⟨w6.heap.size, 0, none⟩) 4 [0, 59, 60, 130]) := Lib.hid (Ri.of_block (Bx.new _ 3 _) (Bx.new _ 3 (ints [0, 59, 60, 130]).toArray).lt (by decide))
  refine (counts21 60 (some ⟨w.heap.size, 0, none⟩) (some ⟨w.heap.size + 1, 0, none⟩) (some ⟨w.heap.size + 1 + 1, 0, none⟩) 2 2 3 2 2 3 [10, 20] [5, 15] [1000, 1500, 2000] (some ⟨w6.heap.size, 0, none⟩) 4 4 [0, 59, 60, 130] 0 2 _ HWa.out.ru HWa.out.rd HWa.out.rp HS.out (small_at (by decide))).mono ?_
  rintro e w7 ⟨⟨A', k, c', rfl, hR⟩, hb⟩
  rw [k5] at hR
  obtain rfl : 2 = k := hR.1
  have HR := Lib.hid hR
  have HW7 := Lib.hid (HWa.out.next hb)
  clear hb hR HW6 HWa HS
  go_wp2_with fail
  have HWb := Lib.hid (HW7.out.next (b1 w7 (.cells (ints [2, 1]).toArray 3)))
  refine (same_any A' (some ⟨w7.heap.size, 0, none⟩) 2 c' 2 [2, 1] (w7.alloc (.cells (ints [2, 1]).toArray 3)) (HR.out.up (b1 _ _)) (Ri.of_block (Bx.new _ 3 _) (Bx.new _ 3 (ints [2, 1]).toArray).lt (by decide))).mono ?_
  rintro e w8 ⟨rfl, hb⟩
  have HW8 := Lib.hid (HWb.out.next hb)
  clear hb HW7 HWb HR
  obtain ⟨c0, c1, c2, c3⟩ := HW8.out.b.cells4
  have hlt := HW8.out.b.lt
  go_wp2_with fail
  clear c0 c1 c2 c3 hlt
  refine (at23 60 (some ⟨w.heap.size, 0, none⟩) (some ⟨w.heap.size + 1, 0, none⟩) (some ⟨w.heap.size + 1 + 1, 0, none⟩) 2 2 3 2 2 3 [10, 20] [5, 15] [1000, 1500, 2000] (some ⟨w.heap.size + 1 + 1 + 1 + 1, 0, none⟩) 10 10 [70, 70, 70, 70, 70, 70, 70, 70, 70, 70] 119 _ HW8.out.ru HW8.out.rd HW8.out.rp HW8.out.rt (small_at (by decide))).mono ?_
  rintro e w9 ⟨he, hb⟩
  rw [k6] at he
  subst he
  have HW9 := Lib.hid (HW8.out.next hb)
  clear hb HW8
  obtain ⟨c0, c1, c2, c3⟩ := HW9.out.b.cells4
  have hlt := HW9.out.b.lt
  go_wp2_with fail
  clear c0 c1 c2 c3 hlt
  refine (at23 60 (some ⟨w.heap.size, 0, none⟩) (some ⟨w.heap.size + 1, 0, none⟩) (some ⟨w.heap.size + 1 + 1, 0, none⟩) 2 2 3 2 2 3 [10, 20] [5, 15] [1000, 1500, 2000] (some ⟨w.heap.size + 1 + 1 + 1 + 1, 0, none⟩) 10 10 [70, 70, 70, 70, 70, 70, 70, 70, 70, 70] 120 _ HW9.out.ru HW9.out.rd HW9.out.rp HW9.out.rt (small_at (by decide))).mono ?_
  rintro e w10 ⟨he, hb⟩
  rw [k7] at he
  subst he
  have HW10 := Lib.hid (HW9.out.next hb)
  clear hb HW9
  obtain ⟨c0, c1, c2, c3⟩ := HW10.out.b.cells4
  have hlt := HW10.out.b.lt
  go_wp2_with fail
  clear c0 c1 c2 c3 hlt
  refine (at23 60 (some ⟨w.heap.size, 0, none⟩) (some ⟨w.heap.size + 1, 0, none⟩) (some ⟨w.heap.size + 1 + 1, 0, none⟩) 2 2 3 2 2 3 [10, 20] [5, 15] [1000, 1500, 2000] (some ⟨w.heap.size + 1 + 1 + 1 + 1, 0, none⟩) 10 10 [70, 70, 70, 70, 70, 70, 70, 70, 70, 70] 180 _ HW10.out.ru HW10.out.rd HW10.out.rp HW10.out.rt (small_at (by decide))).mono ?_
  rintro e w11 ⟨he, hb⟩
  rw [k8] at he
  subst he
  have HW11 := Lib.hid (HW10.out.next hb)
  clear hb HW10
  obtain ⟨c0, c1, c2, c3⟩ := HW11.out.b.cells4
  have hlt := HW11.out.b.lt
  go_wp2_with fail
  clear c0 c1 c2 c3 hlt
  refine (part_any 60 (some ⟨w.heap.size, 0, none⟩) (some ⟨w.heap.size + 1, 0, none⟩) (some ⟨w.heap.size + 1 + 1, 0, none⟩) 2 2 3 2 2 3 [10, 20] [5, 15] [1000, 1500, 2000] 1 _ HW11.out.ru HW11.out.rd HW11.out.rp).mono ?_
  rintro e w12 ⟨he, hb⟩
  rw [k9] at he
  subst he
  have HW12 := Lib.hid (HW11.out.next hb)
  clear hb HW11
  obtain ⟨c0, c1, c2, c3⟩ := HW12.out.b.cells4
  have hlt := HW12.out.b.lt
  go_wp2_with fail
  clear c0 c1 c2 c3 hlt
  refine (part_any 60 (some ⟨w.heap.size, 0, none⟩) (some ⟨w.heap.size + 1, 0, none⟩) (some ⟨w.heap.size + 1 + 1, 0, none⟩) 2 2 3 2 2 3 [10, 20] [5, 15] [1000, 1500, 2000] 3 _ HW12.out.ru HW12.out.rd HW12.out.rp).mono ?_
  rintro e w13 ⟨he, hb⟩
  rw [k10] at he
  subst he
  have HW13 := Lib.hid (HW12.out.next hb)
  clear hb HW12
  go_wp2_with fail
  go_ret
  exact ⟨rfl, HW13.out.bel⟩
end Go.Proofs.Ytcobolmagjlbeaa.Wk
