/- awake returns true, and writes nothing that was there. No condition. -/
import Derived.Test.YtmclbcfcbocnhaaRch
set_option linter.unusedSimpArgs false
set_option linter.unusedVariables false
namespace Go.Proofs.Ytmclbcfcbocnhaa.Wk
open Go.RowKit
open Go.Proofs.Ytmclbcfcbocnhaa.Mt

def flat : List Rule → List Value
  | [] => []
  | r :: t => .int .i64 r.1 :: .int .i64 r.2.1 :: .int .i64 r.2.2 :: flat t
theorem flat_at (rs : List Rule) (i : Nat) (h : i < rs.length) :
    (flat rs)[i * 3]? = some (.int .i64 (at_ rs i).1) ∧ (flat rs)[i * 3 + 1]? = some (.int .i64 (at_ rs i).2.1) ∧ (flat rs)[i * 3 + 2]? = some (.int .i64 (at_ rs i).2.2) := by
  induction rs generalizing i with
  | nil => simp at h
  | cons r t ih =>
    cases i with
    | zero => simp [flat, at_]
    | succ j =>
      have := ih j (by simpa using h)
      have e : (j + 1) * 3 = j * 3 + 3 := by omega
      rw [e]
      simpa [flat, at_] using this
theorem Rl.of_block {w : World} {g B : Nat} {t : TypeId} (rs : List Rule) (h : w.heap[g]? = some (.cells (flat rs).toArray t (0, 0))) (hB : g < B) (hl : rs.length ≤ 1000) : Rl w B (some ⟨g, 0, none⟩) rs.length rs := by
  refine ⟨rfl, by omega, fun _ => ⟨g, 0, rfl, hB, fun i hi => ?_⟩⟩
  obtain ⟨h1, h2, h3⟩ := flat_at rs i hi
  rw [Nat.zero_add, cell_of_row w g _ _ t (0, 0) h, cell_of_row w g _ _ t (0, 0) h, cell_of_row w g _ _ t (0, 0) h]
  simpa using ⟨h1, h2, h3⟩
def ints : List Int → List Value
  | [] => []
  | n :: t => .int .i64 n :: ints t
theorem ints_at (l : List Int) (i : Nat) (h : i < l.length) : (ints l)[i]? = some (.int .i64 (l.getD i 0)) := by
  induction l generalizing i with
  | nil => simp at h
  | cons r t ih =>
    cases i with
    | zero => simp [ints]
    | succ j => simpa [ints] using ih j (by simpa using h)
theorem Ri.of_block {w : World} {g B : Nat} {t : TypeId} (zs : List Int) (h : w.heap[g]? = some (.cells (ints zs).toArray t (0, 0))) (hB : g < B) (hl : zs.length ≤ 1000) : Ri w B (some ⟨g, 0, none⟩) zs.length zs := by
  refine ⟨rfl, by omega, fun _ => ⟨g, 0, rfl, hB, fun i hi => ?_⟩⟩
  rw [Nat.zero_add, cell_of_row w g _ _ t (0, 0) h]
  simpa using ints_at zs i hi

def rs0 : List Rule := [(1, 2, 1), (3, 3, 2), (5, 20, 4)]
def rs1 : List Rule := [(1, 2, 1), (3, 4, 1)]
def zs0 : List Int := [2, 3, 3, 2, 0]
theorem keep_block {B g : Nat} {w w' : World} {o : Obj} (h : w.heap[g]? = some o) (hb : Below B w w') (hg : g < B) : w'.heap[g]? = some o := (hb.block g hg).trans h

theorem awake_any (w : World) : Calls Try.prog 9 #[] w fun e w' => e = .returned (.bool true) ∧ Below w.heap.size w w' := by
  have o1 : ofS 2 rs0 = (1, 0) := by decide
  have o2 : ofS 4 rs0 = (0, 20) := by decide
  have r1 : raS 4 rs0 = (5, 20, true) := by decide
  have e1 : reS 0 3 = (3, true) := by decide
  have e2 : reS 2 3 = (3, false) := by decide
  have k1 : chS rs0 = 0 := by decide
  have k2 : chS rs1 = 9 := by decide
  have m1 : majS zs0 = 2 := by decide
  have O1 := Lib.hid o1
  have O2 := Lib.hid o2
  have R1 := Lib.hid r1
  have E1 := Lib.hid e1
  have E2 := Lib.hid e2
  have K1 := Lib.hid k1
  have K2 := Lib.hid k2
  have M1 := Lib.hid m1
  clear o1 o2 r1 e1 e2 k1 k2 m1
  go_enter Try.func9, Try.ntmps9
  go_wp2_with fail
  have HN : Hid ((w.alloc (.cells (flat rs0).toArray 44)).heap[w.heap.size]? = some (.cells (flat rs0).toArray 44 (0, 0))) := Lib.hid (heap_alloc_new _ _)
  have hb0 : Below w.heap.size w (w.alloc (.cells (flat rs0).toArray 44)) := (Below.refl _ _).alloc (Nat.le_refl _) _
  refine (of_any _ 3 3 2 rs0 _ (Rl.of_block rs0 HN.out (by simp) (by decide))).mono ?_
  rintro e w1 ⟨he, hb1⟩
  rw [O1.out] at he
  subst he
  have HN1 := Lib.hid (keep_block HN.out hb1 (by simp))
  have hz1 : w.heap.size + 1 ≤ w1.heap.size := by have := hb1.size; simpa using this
  have hB1 : Below w.heap.size w w1 := hb0.trans (hb1.mono (by simp))
  clear hb0 hb1
  go_wp2_with fail
  refine (of_any _ 3 3 4 rs0 _ (Rl.of_block rs0 HN1.out (by omega) (by decide))).mono ?_
  rintro e w2 ⟨he, hb2⟩
  rw [O2.out] at he
  subst he
  have HN2 := Lib.hid (keep_block HN1.out hb2 (by omega))
  have hz2 : w.heap.size + 1 ≤ w2.heap.size := by have := hb2.size; omega
  have hB2 : Below w.heap.size w w2 := hB1.trans (hb2.mono (by omega))
  clear hb2 hB1
  go_wp2_with fail
  refine (range_any _ 3 3 4 rs0 _ (Rl.of_block rs0 HN2.out (by omega) (by decide))).mono ?_
  rintro e w3 ⟨he, hb3⟩
  rw [R1.out] at he
  subst he
  have HN3 := Lib.hid (keep_block HN2.out hb3 (by omega))
  have hz3 : w.heap.size + 1 ≤ w3.heap.size := by have := hb3.size; omega
  have hB3 : Below w.heap.size w w3 := hB2.trans (hb3.mono (by omega))
  clear hb3 hB2
  go_wp2_with fail
  refine (reconcile_any 0 3 _).mono ?_
  rintro e _ ⟨he, rfl⟩
  rw [E1.out] at he
  subst he
  go_wp2_with fail
  refine (reconcile_any 2 3 _).mono ?_
  rintro e _ ⟨he, rfl⟩
  rw [E2.out] at he
  subst he
  go_wp2_with fail
  refine (check_any _ 3 3 rs0 _ (Rl.of_block rs0 HN3.out (by omega) (by decide))).mono ?_
  rintro e w4 ⟨he, hb4⟩
  rw [K1.out] at he
  subst he
  have hB4 : Below w.heap.size w w4 := hB3.trans (hb4.mono (by omega))
  clear hb4 hB3
  go_wp2_with fail
  refine (majority_any _ 5 5 zs0 _ (Ri.of_block zs0 (heap_alloc_new _ _) (by simp) (by decide))).mono ?_
  rintro e w5 ⟨he, hb5⟩
  rw [M1.out] at he
  subst he
  have hB5 : Below w.heap.size w w5 := (hB4.alloc hB4.size _).trans (hb5.mono (by have := hB4.size; simp; omega))
  clear hb5 hB4
  go_wp2_with fail
  refine (check_any _ 2 2 rs1 _ (Rl.of_block rs1 (heap_alloc_new _ _) (by simp) (by decide))).mono ?_
  rintro e w6 ⟨he, hb6⟩
  rw [K2.out] at he
  subst he
  have hB6 : Below w.heap.size w w6 := (hB5.alloc hB5.size _).trans (hb6.mono (by have := hB5.size; simp; omega))
  clear hb6 hB5
  go_wp2_with fail
  go_ret
  exact ⟨rfl, hB6⟩
end Go.Proofs.Ytmclbcfcbocnhaa.Wk
