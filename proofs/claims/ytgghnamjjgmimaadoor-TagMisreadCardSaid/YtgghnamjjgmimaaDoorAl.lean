/- The worked examples of the chapter hold. Condition: the table of powers reads as the program lays it. -/
import Derived.Test.YtgghnamjjgmimaaDoorLi
set_option linter.unusedSimpArgs false
set_option linter.unusedVariables false
namespace Go.Proofs.YtgghnamjjgmimaaDoor.Mt
open Go
def tA : ByteArray := { data := #[48, 48, 49, 48, 48, 48, 48, 48, 48, 48, 49, 54] }
def tB : ByteArray := { data := #[48, 48, 49, 48, 48, 48, 48, 48, 48, 48, 49, 55] }
def lA : List Ts := [(tA, 5, 2), (tA, 9, 1)]
theorem v1 : mkS { data := #[48, 48, 49] } 1 = { data := #[48, 48, 49, 48, 48, 48, 48, 48, 48, 48, 49, 54] } := by decide
theorem v2 : mkE { data := #[48, 48, 49] } 1 = 0 := by decide
theorem v3 : mkE { data := #[48, 49] } 1 = 30 := by decide
theorem v4 : mkE { data := #[48, 48, 49] } (-1) = 2 := by decide
theorem v5 : ck { data := #[48, 48, 49, 48, 48, 48, 48, 48, 48, 48, 49, 55] } = 18 := by decide
theorem v6 : ck tA = 0 := by decide
theorem eqb_self (a : ByteArray) : eqb a a = true := eqb_iff.2 rfl
theorem v7 : caS lA = 0 := by
  have h : feS lA 2 = 0 := fe_all.2 (fun i hi => by
    rcases i with _ | _ | i
    · unfold er
      simp only [lA, tat, List.getD_cons_zero, v6]
      decide
    · unfold er
      have hb : bf (tat lA (1 - 1)) (tat lA 1) = true := by
        show (if eqb tA tA then decide ((5 : Int) < 9) else ls tA tA) = true
        rw [eqb_self]; rfl
      rw [hb]
      simp only [lA, tat, List.getD_cons_succ, List.getD_cons_zero, v6]
      decide
    · omega)
  exact h
theorem stA (t : Int) : stS lA tA t = if 9 ≤ t then 1 else if 5 ≤ t then 2 else 1 := by
  show (if ck tA = 0 then (if eqb tA tA && decide ((9 : Int) ≤ t) then 1 else if eqb tA tA && decide ((5 : Int) ≤ t) then 2 else 1) else 0) = _
  rw [v6, eqb_self]
  by_cases h9 : (9 : Int) ≤ t
  · simp [h9]
  · by_cases h5 : (5 : Int) ≤ t <;> simp [h9, h5]
theorem v8 : stS lA tA 4 = 1 := by rw [stA]; decide
theorem v9 : stS lA tA 5 = 2 := by rw [stA]; decide
theorem v10 : stS lA tA 8 = 2 := by rw [stA]; decide
theorem v11 : stS lA tA 9 = 1 := by rw [stA]; decide
theorem v12 : stS lA tB 9 = 0 := by unfold stS; rw [if_neg (by decide)]
end Go.Proofs.YtgghnamjjgmimaaDoor.Mt
namespace Go.Proofs.YtgghnamjjgmimaaDoor.Wk
open Go.RowKit
open Go.Proofs.YtgghnamjjgmimaaDoor.Mt
theorem six (w : World) (g : Nat) (s1 s2 : ByteArray) (a b c d : Int) (h : Bx w g 45 #[.string s1, .int .i64 a, .int .i64 b, .string s2, .int .i64 c, .int .i64 d]) (ha : In64 a) (hb : In64 b) (hc : In64 c) (hd : In64 d) : Rt w w.heap.size (some ⟨g, 0, none⟩) 2 [(s1, a, b), (s2, c, d)] := by
  refine ⟨rfl, by omega, fun _ => ⟨g, 0, rfl, h.lt, fun i hi => ?_⟩, fun i => ?_⟩
  · rcases i with _ | _ | i
    · exact ⟨(h.cell 0).trans rfl, (h.cell 1).trans rfl, (h.cell 2).trans rfl⟩
    · exact ⟨(h.cell 3).trans rfl, (h.cell 4).trans rfl, (h.cell 5).trans rfl⟩
    · omega
  · rcases i with _ | _ | i
    · exact ⟨ha, hb⟩
    · exact ⟨hc, hd⟩
    · simp [tat, In64]
set_option maxHeartbeats 4000000 in
set_option maxRecDepth 100000 in
theorem alive17 (w : World) (ht : Tb w) : Calls Tryd.prog 17 #[] w fun e w' => e = .returned (.bool true) ∧ Below w.heap.size w w' := by
  have HT := Lib.hid ht
  have HB := Lib.hid (Below.refl w.heap.size w)
  clear ht
  go_enter Tryd.func17, Tryd.ntmps17
  go_wp2_with fail
  refine (make18 { data := #[48, 48, 49] } 1 _ HT.out).mono ?_
  rintro e w1 ⟨rfl, hb⟩
  rw [v2, v1]
  replace HT := Lib.hid (HT.out.next hb)
  replace HB := Lib.hid (upB HB.out hb)
  clear hb
  go_wp2_with fail
  refine (make18 { data := #[48, 49] } 1 _ HT.out).mono ?_
  rintro e w2 ⟨rfl, hb⟩
  rw [v3]
  generalize mkS { data := #[48, 49] } 1 = u2
  replace HT := Lib.hid (HT.out.next hb)
  replace HB := Lib.hid (upB HB.out hb)
  clear hb
  go_wp2_with fail
  refine (make18 { data := #[48, 48, 49] } (-1) _ HT.out).mono ?_
  rintro e w3 ⟨rfl, hb⟩
  rw [v4]
  generalize mkS { data := #[48, 48, 49] } (-1) = u3
  replace HT := Lib.hid (HT.out.next hb)
  replace HB := Lib.hid (upB HB.out hb)
  clear hb
  have HX : Hid (Bx (w3.alloc (.cells #[.string { data := #[48, 48, 49, 48, 48, 48, 48, 48, 48, 48, 49, 54] }, .int .i64 5, .int .i64 2, .string { data := #[48, 48, 49, 48, 48, 48, 48, 48, 48, 48, 49, 54] }, .int .i64 9, .int .i64 1] 45)) w3.heap.size 45 #[.string { data := #[48, 48, 49, 48, 48, 48, 48, 48, 48, 48, 49, 54] }, .int .i64 5, .int .i64 2, .string { data := #[48, 48, 49, 48, 48, 48, 48, 48, 48, 48, 49, 54] }, .int .i64 9, .int .i64 1]) := Lib.hid (Bx.new _ _ _)
  have HR : Hid (Rt (w3.alloc (.cells #[.string { data := #[48, 48, 49, 48, 48, 48, 48, 48, 48, 48, 49, 54] }, .int .i64 5, .int .i64 2, .string { data := #[48, 48, 49, 48, 48, 48, 48, 48, 48, 48, 49, 54] }, .int .i64 9, .int .i64 1] 45)) (w3.alloc (.cells #[.string { data := #[48, 48, 49, 48, 48, 48, 48, 48, 48, 48, 49, 54] }, .int .i64 5, .int .i64 2, .string { data := #[48, 48, 49, 48, 48, 48, 48, 48, 48, 48, 49, 54] }, .int .i64 9, .int .i64 1] 45)).heap.size (some ⟨w3.heap.size, 0, none⟩) 2 lA) := Lib.hid (six _ _ _ _ _ _ _ _ HX.out (by unfold In64; omega) (by unfold In64; omega) (by unfold In64; omega) (by unfold In64; omega))
  replace HB := Lib.hid (HB.out.alloc HB.out.size (.cells #[.string { data := #[48, 48, 49, 48, 48, 48, 48, 48, 48, 48, 49, 54] }, .int .i64 5, .int .i64 2, .string { data := #[48, 48, 49, 48, 48, 48, 48, 48, 48, 48, 49, 54] }, .int .i64 9, .int .i64 1] 45))
  clear HX
  go_wp2_with fail
  refine (check15 _ _).mono ?_
  rintro e w4 ⟨rfl, hb⟩
  rw [v5]
  replace HR := Lib.hid (HR.out.up hb)
  replace HB := Lib.hid (upB HB.out hb)
  clear hb
  go_wp2_with fail
  refine (checkAll20 _ 2 _ lA _ HR.out).mono ?_
  rintro e w5 ⟨rfl, hb⟩
  rw [v7]
  replace HR := Lib.hid (HR.out.up hb)
  replace HB := Lib.hid (upB HB.out hb)
  clear hb
  go_wp2_with fail
  refine (state22 _ 2 _ lA tA 4 _ HR.out).mono ?_
  rintro e w6 ⟨rfl, hb⟩
  rw [v8]
  replace HR := Lib.hid (HR.out.up hb)
  replace HB := Lib.hid (upB HB.out hb)
  clear hb
  go_wp2_with fail
  refine (state22 _ 2 _ lA tA 5 _ HR.out).mono ?_
  rintro e w7 ⟨rfl, hb⟩
  rw [v9]
  replace HR := Lib.hid (HR.out.up hb)
  replace HB := Lib.hid (upB HB.out hb)
  clear hb
  go_wp2_with fail
  refine (state22 _ 2 _ lA tA 8 _ HR.out).mono ?_
  rintro e w8 ⟨rfl, hb⟩
  rw [v10]
  replace HR := Lib.hid (HR.out.up hb)
  replace HB := Lib.hid (upB HB.out hb)
  clear hb
  go_wp2_with fail
  refine (state22 _ 2 _ lA tA 9 _ HR.out).mono ?_
  rintro e w9 ⟨rfl, hb⟩
  rw [v11]
  replace HR := Lib.hid (HR.out.up hb)
  replace HB := Lib.hid (upB HB.out hb)
  clear hb
  go_wp2_with fail
  refine (state22 _ 2 _ lA tB 9 _ HR.out).mono ?_
  rintro e w10 ⟨rfl, hb⟩
  rw [v12]
  replace HR := Lib.hid (HR.out.up hb)
  replace HB := Lib.hid (upB HB.out hb)
  clear hb
  go_wp2_with fail
  go_ret
  exact ⟨rfl, HB.out⟩
end Go.Proofs.YtgghnamjjgmimaaDoor.Wk
