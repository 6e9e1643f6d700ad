/- alive returns true, and writes nothing that was there. No condition. -/
import Derived.Test.YtodkcnhdiddbkaaRunA
set_option linter.unusedSimpArgs false
set_option linter.unusedVariables false
namespace Go.Proofs.Ytodkcnhdiddbkaa.Wk
open Go.RowKit
open Go.Proofs.Ytodkcnhdiddbkaa.Mt
theorem Bx.next {w w' : World} {g : Nat} {t : TypeId} {cs : Array Value} (h : Bx w g t cs) (hb : Below w.heap.size w w') : Bx w' g t cs := h.below hb h.lt
theorem Bx.alloc {w : World} {g : Nat} {t : TypeId} {cs : Array Value} (h : Bx w g t cs) (o : Obj) : Bx (w.alloc o) g t cs := (Below.heap_alloc w o g h.lt).trans h
theorem Bx.new (w : World) (t : TypeId) (cs : Array Value) : Bx (w.alloc (.cells cs t)) w.heap.size t cs := heap_alloc_new w _
theorem Bx.newAt {w : World} {g : Nat} {t : TypeId} {cs : Array Value} (h : g = w.heap.size) : Bx (w.alloc (.cells cs t)) g t cs := by subst h; exact Bx.new _ _ _
theorem Bx.cells3 {w : World} {g : Nat} {t : TypeId} {a b c : Value} (h : Bx w g t #[a, b, c]) : w.cell? ⟨g, 0, none⟩ = some a ∧ w.cell? ⟨g, 1, none⟩ = some b ∧ w.cell? ⟨g, 2, none⟩ = some c := ⟨(h.cell 0).trans rfl, (h.cell 1).trans rfl, (h.cell 2).trans rfl⟩
theorem Bx.cells4 {w : World} {g : Nat} {t : TypeId} {a b c d : Value} (h : Bx w g t #[a, b, c, d]) : w.cell? ⟨g, 0, none⟩ = some a ∧ w.cell? ⟨g, 1, none⟩ = some b ∧ w.cell? ⟨g, 2, none⟩ = some c ∧ w.cell? ⟨g, 3, none⟩ = some d := ⟨(h.cell 0).trans rfl, (h.cell 1).trans rfl, (h.cell 2).trans rfl, (h.cell 3).trans rfl⟩
theorem Ri.own {w : World} {base : Nat} {A : Option Addr} {n c : Nat} {zs : List Int} (h : w.ownsRow base 3 1 (.slice A n c) zs.length (zs.map (Value.int .i64))) (hl : zs.length ≤ 9223372036854775807) (h0 : 0 < zs.length) : Ri w w.heap.size A n zs := by
  obtain ⟨g, cap, hv, _, hlt⟩ := h.form h0
  injection hv with e1 e2 e3
  subst e1 e2 e3
  refine ⟨rfl, hl, fun _ => ⟨g, 0, rfl, hlt, fun i hi => ?_⟩⟩
  have := h.cells (g := g) rfl i (.int .i64 (zs.getD i 0)) (by simp [List.getD, List.getElem?_eq_getElem hi])
  have e : (⟨g, 0, none⟩ : Addr).add i = ⟨g, 0 + i, none⟩ := by unfold Addr.add; by_cases h : i = 0 <;> simp [h]
  rw [e] at this
  exact this
def ints : List Int → List Value
  | [] => []
  | n :: t => .int .i64 n :: ints t
theorem ints_at (l : List Int) (i : Nat) (h : i < l.length) : (ints l)[i]? = some (.int .i64 (l.getD i 0)) := by
  induction l generalizing i with
  | nil => simp at h
  | cons r t ih =>
    cases i with
    | zero => simp [ints]
    | succ j => simpa [ints] using ih j (by simpa using h)
theorem Ri.lit {w : World} {g B : Nat} {t : TypeId} (zs : List Int) (h : Bx w g t (ints zs).toArray) (hB : g < B) (hl : zs.length ≤ 2000) : Ri w B (some ⟨g, 0, none⟩) zs.length zs := by
  refine ⟨rfl, by omega, fun _ => ⟨g, 0, rfl, hB, fun i hi => ?_⟩⟩
  rw [Nat.zero_add, h.cell i]
  simpa using ints_at zs i hi
theorem Rb.lit1 {w : World} {g B : Nat} {t : TypeId} {x : Bool} (h : Bx w g t #[.bool x]) (hB : g < B) : Rb w B (some ⟨g, 0, none⟩) 1 [x] := by
  refine ⟨rfl, by omega, fun _ => ⟨g, 0, rfl, hB, fun i hi => ?_⟩⟩
  have : i = 0 := by omega
  subst this
  exact (h.cell 0).trans rfl
theorem Rb.nil_ {w : World} {B : Nat} : Rb w B none 0 [] := ⟨rfl, by omega, fun h => absurd h (by omega)⟩
theorem upB {w W w' : World} (h : Below w.heap.size w W) (hb : Below W.heap.size W w') : Below w.heap.size w w' := h.trans (hb.mono h.size)

def m1 : List Int := [-200, -100, -100]
def m2 : List Int := [-200, 0, 0, 0, 0]
theorem r1 : runS ⟨500, 1000, 2, 3⟩ 600 m1 [true] = ([1400, 1300, 1200], ⟨1, 0, 0⟩, 0) := rfl
theorem r2 : runS ⟨500, 1000, 2, 3⟩ 600 m2 [] = ([400, 400, 400, 400, 400], ⟨3, 2, 0⟩, 0) := rfl
theorem s1 : stp ⟨500, 1000, 2, 3⟩ ⟨1, 0, 0⟩ 499 0 = (⟨2, 0, 0⟩, 1000) := rfl
theorem s2 : stp ⟨500, 1000, 2, 3⟩ ⟨1, 0, 0⟩ 500 0 = (⟨1, 0, 0⟩, 0) := rfl
theorem s3 : fai ⟨500, 1000, 2, 3⟩ ⟨2, 0, 0⟩ 7 = (⟨1, 1, 10⟩, 0) := rfl
theorem s4 : stp ⟨500, 1000, 2, 3⟩ ⟨1, 1, 10⟩ 499 10 = (⟨2, 1, 10⟩, 1000) := rfl
theorem s5 : fai ⟨500, 1000, 2, 3⟩ ⟨2, 1, 10⟩ 10 = (⟨3, 2, 0⟩, 0) := rfl

set_option maxHeartbeats 4000000 in
set_option maxRecDepth 100000 in
theorem alive_any (w : World) : Calls Try.prog 13 #[] w fun e w' => e = .returned (.bool true) ∧ Below w.heap.size w w' := by
  go_enter Try.func13, Try.ntmps13
  go_wp2_with fail
  have hA0 : Below w.heap.size w ((w.alloc (.cells #[.int .i64 500, .int .i64 1000, .int .i64 2, .int .i64 3] 23)).alloc (.cells #[.int .i64 1, .int .i64 0, .int .i64 0] 30)) := b2 _ _ _
  have HR0 : Hid (Bx ((w.alloc (.cells #[.int .i64 500, .int .i64 1000, .int .i64 2, .int .i64 3] 23)).alloc (.cells #[.int .i64 1, .int .i64 0, .int .i64 0] 30)) w.heap.size 23 #[.int .i64 500, .int .i64 1000, .int .i64 2, .int .i64 3]) := Lib.hid ((Bx.new _ _ _).alloc _)
  have HI0 : Hid (Bx ((w.alloc (.cells #[.int .i64 500, .int .i64 1000, .int .i64 2, .int .i64 3] 23)).alloc (.cells #[.int .i64 1, .int .i64 0, .int .i64 0] 30)) (w.heap.size + 1) 30 #[.int .i64 1, .int .i64 0, .int .i64 0]) := Lib.hid (by have := Bx.new (w.alloc (.cells #[.int .i64 500, .int .i64 1000, .int .i64 2, .int .i64 3] 23)) 30 #[.int .i64 1, .int .i64 0, .int .i64 0]; simpa using this)
  refine (step_r (f := ⟨1, 0, 0⟩) s1 _).mono ?_
  rintro e w1 ⟨rfl, hb1⟩
  have hA1 := upB hA0 hb1
  have HR1 := Lib.hid (HR0.out.next hb1)
  have HI1 := Lib.hid (HI0.out.next hb1)
  obtain ⟨c0, c1, c2, c3⟩ := HR1.out.cells4
  obtain ⟨c4, c5, c6⟩ := HI1.out.cells3
  have l1 := HR1.out.lt
  have l2 := HI1.out.lt
  clear hb1 HR0 HI0 hA0
  go_wp2_with fail
  refine (step_r (f := ⟨1, 0, 0⟩) s2 _).mono ?_
  rintro e w2 ⟨rfl, hb2⟩
  have hA2 := upB (hA1.alloc hA1.size _) hb2
  have HR2 := Lib.hid ((HR1.out.alloc _).next hb2)
  have HF2 : Hid (Bx w2 w1.heap.size 30 #[.int .i64 2, .int .i64 0, .int .i64 0]) := Lib.hid ((Bx.new w1 30 #[.int .i64 2, .int .i64 0, .int .i64 0]).next hb2)
  clear hb2 HR1 HI1 hA1 c0 c1 c2 c3 c4 c5 c6 l1 l2
  obtain ⟨c0, c1, c2, c3⟩ := HR2.out.cells4
  obtain ⟨c4, c5, c6⟩ := HF2.out.cells3
  have l1 := HR2.out.lt
  have l2 := HF2.out.lt
  go_wp2_with fail
  refine (fai_r s3 (by omega) (by omega) _).mono ?_
  rintro e w3 ⟨rfl, hb3⟩
  have hA3 := upB (hA2.alloc hA2.size _) hb3
  have HR3 := Lib.hid ((HR2.out.alloc _).next hb3)
  have HF3 := Lib.hid ((HF2.out.alloc _).next hb3)
  clear hb3 HR2 HF2 hA2 c0 c1 c2 c3 c4 c5 c6 l1 l2
  obtain ⟨c0, c1, c2, c3⟩ := HR3.out.cells4
  have l1 := HR3.out.lt
  go_wp2_with fail
  refine (step_r (f := ⟨1, 1, 10⟩) s4 _).mono ?_
  rintro e w4 ⟨rfl, hb4⟩
  have hA4 := upB (hA3.alloc hA3.size _) hb4
  have HR4 := Lib.hid ((HR3.out.alloc _).next hb4)
  have HF4 := Lib.hid ((HF3.out.alloc _).next hb4)
  have HG4 : Hid (Bx w4 w3.heap.size 30 #[.int .i64 1, .int .i64 1, .int .i64 10]) := Lib.hid ((Bx.new w3 30 #[.int .i64 1, .int .i64 1, .int .i64 10]).next hb4)
  clear hb4 HR3 HF3 hA3 c0 c1 c2 c3 l1
  obtain ⟨c0, c1, c2, c3⟩ := HR4.out.cells4
  have l1 := HR4.out.lt
  go_wp2_with fail
  refine (fai_r s5 (by omega) (by omega) _).mono ?_
  rintro e w5 ⟨rfl, hb5⟩
  have hA5 := upB (hA4.alloc hA4.size _) hb5
  have HR5 := Lib.hid ((HR4.out.alloc _).next hb5)
  have HF5 := Lib.hid ((HF4.out.alloc _).next hb5)
  have HG5 := Lib.hid ((HG4.out.alloc _).next hb5)
  clear hb5 HR4 HF4 HG4 hA4 c0 c1 c2 c3 l1
  obtain ⟨c0, c1, c2, c3⟩ := HR5.out.cells4
  obtain ⟨c4, c5, c6⟩ := HF5.out.cells3
  obtain ⟨c7, c8, c9⟩ := HG5.out.cells3
  have l1 := HR5.out.lt
  have l2 := HF5.out.lt
  have l3 := HG5.out.lt
  go_wp2_with fail
  refine (run_any 500 1000 2 3 600 _ 3 3 m1 _ 1 1 [true] _ ?_ ?_).mono ?_
  · exact Ri.lit m1 ((Bx.newAt (by simp)).alloc _) (by simp) (by decide)
  · exact Rb.lit1 (Bx.newAt (by simp)) (by simp)
  rintro e w6 ⟨vs, he, ho, hb6⟩
  rw [r1] at he ho
  obtain ⟨g6, cap6, rfl, _, _⟩ := ho.form (by decide)
  have he : e = .returned (.tuple #[.slice (some ⟨g6, 0, none⟩) 3 cap6, .agg #[.int .i64 1, .int .i64 0, .int .i64 0], .int .i64 0]) := he
  subst he
  have HO6 := Lib.hid ho
  have hA6 := upB (((hA5.alloc hA5.size _).alloc (by have := hA5.size; simp; omega) _).alloc (by have := hA5.size; simp; omega) _) hb6
  have HR6 := Lib.hid ((((HR5.out.alloc _).alloc _).alloc _).next hb6)
  clear hb6 ho HR5 HF5 HG5 hA5 c0 c1 c2 c3 c4 c5 c6 c7 c8 c9 l1 l2 l3
  obtain ⟨c0, c1, c2, c3⟩ := HR6.out.cells4
  have l1 := HR6.out.lt
  go_wp2_with fail
  refine (run_any 500 1000 2 3 600 _ 5 5 m2 _ 0 0 [] _ ?_ Rb.nil_).mono ?_
  · exact Ri.lit m2 (Bx.newAt (by simp)) (by simp) (by decide)
  rintro e w7 ⟨vs, he, ho, hb7⟩
  rw [r2] at he ho
  obtain ⟨g7, cap7, rfl, _, _⟩ := ho.form (by decide)
  have he : e = .returned (.tuple #[.slice (some ⟨g7, 0, none⟩) 5 cap7, .agg #[.int .i64 3, .int .i64 2, .int .i64 0], .int .i64 0]) := he
  subst he
  have HO7 := Lib.hid ho
  have hA7 := upB ((hA6.alloc hA6.size _).alloc (by have := hA6.size; simp; omega) _) hb7
  have HO67 := Lib.hid (own_below ((HO6.out.alloc _).alloc _) hb7)
  clear hb7 ho HO6 HR6 hA6 c0 c1 c2 c3 l1
  go_wp2_with fail
  refine (same_any _ _ 3 cap6 3 3 [1400, 1300, 1200] [1400, 1300, 1200] _ (Ri.own ((HO67.out.alloc _).alloc _) (by decide) (by decide)) (Ri.lit [1400, 1300, 1200] (Bx.newAt (by simp)) (by simp) (by decide))).mono ?_
  rintro e w8 ⟨rfl, hb8⟩
  have hA8 := upB ((hA7.alloc hA7.size _).alloc (by have := hA7.size; simp; omega) _) hb8
  have HO78 := Lib.hid (own_below ((HO7.out.alloc _).alloc _) hb8)
  have HK8 : Hid (Bx w8 w7.heap.size 30 #[.int .i64 3, .int .i64 2, .int .i64 0]) := Lib.hid (((Bx.new w7 30 #[.int .i64 3, .int .i64 2, .int .i64 0]).alloc _).next hb8)
  clear hb8 HO7 HO67 hA7
  rw [decide_eq_true rfl]
  go_wp2_with fail
  refine (same_any _ _ 5 cap7 5 5 [400, 400, 400, 400, 400] [400, 400, 400, 400, 400] _ (Ri.own (HO78.out.alloc _) (by decide) (by decide)) (Ri.lit [400, 400, 400, 400, 400] (Bx.newAt (by simp)) (by simp) (by decide))).mono ?_
  rintro e w9 ⟨rfl, hb9⟩
  have hA9 := upB (hA8.alloc hA8.size _) hb9
  have HK9 := Lib.hid ((HK8.out.alloc _).next hb9)
  clear hb9 HO78 HK8 hA8
  rw [decide_eq_true rfl]
  obtain ⟨c0, c1, c2⟩ := HK9.out.cells3
  go_wp2_with fail
  refine (check_any 0 0 0 0 _).mono ?_
  rintro e w10 ⟨he, hb10⟩
  rw [chk_zero rfl rfl rfl rfl] at he
  subst he
  have hA10 := upB hA9 hb10
  clear hb10
  go_wp2_with fail
  go_ret
  exact ⟨rfl, hA10⟩
end Go.Proofs.Ytodkcnhdiddbkaa.Wk
