/- The sort of places by their rests, walked. Conditions: the rests lie in a row; there is a place at least. -/
import Derived.Test.YtjipcopfggnlkaaDoorSm
import Derived.Test.YtjipcopfggnlkaaDoorLaig
import Derived.Shelf.SlSortCmp.NoneTotal
import Derived.StillTailTactics
set_option linter.unusedSimpArgs false
set_option linter.unusedVariables false
namespace Go.Proofs.YtjipcopfggnlkaaDoor.Wk
open Go.RowKit Go.Shelf Go.Lib Go.Sort
open Go.Proofs.YtjipcopfggnlkaaDoor.Mt
def c3 (x y : Int) : Int := if x < y then -1 else if y < x then 1 else 0
theorem nan46 (x : Int) (w : World) : Calls Tryd.prog 46 #[.int .u64 x] w fun e w' => e = .returned (.bool false) ∧ w' = w := by
  go_enter Tryd.func46, Tryd.ntmps46
  go_wp2_with fail
  go_ret
  exact ⟨rfl, rfl⟩
theorem nan47 (x : Int) (w : World) : Calls Tryd.prog 47 #[.int .i64 x] w fun e w' => e = .returned (.bool false) ∧ w' = w := by
  go_enter Tryd.func47, Tryd.ntmps47
  go_wp2_with fail
  go_ret
  exact ⟨rfl, rfl⟩
theorem cmp38 (x y : Int) (w : World) : Calls Tryd.prog 38 #[.int .u64 x, .int .u64 y] w fun e w' => e = .returned (.int .i64 (c3 x y)) ∧ w' = w := by
  unfold c3
  by_cases h1 : x < y
  · rw [if_pos h1]
    go_enter Tryd.func38, Tryd.ntmps38
    go_wp2_with (go_at_call 46; refine (nan46 _ _).mono ?_; rintro e w' ⟨rfl, rfl⟩)
    go_ret
    exact ⟨rfl, rfl⟩
  · have h1' : decide (x < y) = false := decide_eq_false h1
    rw [if_neg h1]
    by_cases h2 : y < x
    · rw [if_pos h2]
      go_enter Tryd.func38, Tryd.ntmps38
      go_wp2_with (go_at_call 46; refine (nan46 _ _).mono ?_; rintro e w' ⟨rfl, rfl⟩)
      go_ret
      exact ⟨rfl, rfl⟩
    · have h2' : decide (y < x) = false := decide_eq_false h2
      rw [if_neg h2]
      go_enter Tryd.func38, Tryd.ntmps38
      go_wp2_with (go_at_call 46; refine (nan46 _ _).mono ?_; rintro e w' ⟨rfl, rfl⟩)
      go_ret
      exact ⟨rfl, rfl⟩
theorem cmp39 (x y : Int) (w : World) : Calls Tryd.prog 39 #[.int .i64 x, .int .i64 y] w fun e w' => e = .returned (.int .i64 (c3 x y)) ∧ w' = w := by
  unfold c3
  by_cases h1 : x < y
  · rw [if_pos h1]
    go_enter Tryd.func39, Tryd.ntmps39
    go_wp2_with (go_at_call 47; refine (nan47 _ _).mono ?_; rintro e w' ⟨rfl, rfl⟩)
    go_ret
    exact ⟨rfl, rfl⟩
  · have h1' : decide (x < y) = false := decide_eq_false h1
    rw [if_neg h1]
    by_cases h2 : y < x
    · rw [if_pos h2]
      go_enter Tryd.func39, Tryd.ntmps39
      go_wp2_with (go_at_call 47; refine (nan47 _ _).mono ?_; rintro e w' ⟨rfl, rfl⟩)
      go_ret
      exact ⟨rfl, rfl⟩
    · have h2' : decide (y < x) = false := decide_eq_false h2
      rw [if_neg h2]
      go_enter Tryd.func39, Tryd.ntmps39
      go_wp2_with (go_at_call 47; refine (nan47 _ _).mono ?_; rintro e w' ⟨rfl, rfl⟩)
      go_ret
      exact ⟨rfl, rfl⟩
def or2 (a b : Int) : Int := if a = 0 then b else a
set_option maxHeartbeats 1000000 in
theorem or37 (a b : Int) (g : Nat) (w : World) (h : Bx w g 3 #[.int .i64 a, .int .i64 b]) : Calls Tryd.prog 37 #[.slice (some ⟨g, 0, none⟩) 2 2] w fun e w' => e = .returned (.int .i64 (or2 a b)) ∧ w' = w := by
  obtain ⟨c0, c1⟩ := h.cells2
  have hlt := h.lt
  obtain ⟨V, hV⟩ : ∃ V, or2 a b = V := ⟨_, rfl⟩
  have HV : Hid ((a = 0 → b = V) ∧ (a ≠ 0 → a = V)) := Lib.hid (by unfold or2 at hV; split at hV <;> simp_all)
  rw [hV]
  clear hV h
  go_enter Tryd.func37, Tryd.ntmps37
  go_wp2_with fail
  go_loopw [5, 8] (fun _ iv wr => ∃ i : Nat, i ≤ 2 ∧ iv = .int .i64 i ∧ (0 < i → a = 0) ∧ (1 < i → b = 0) ∧ wr = w) (fun _ iv _ => 2 - (intOf iv).toNat)
  case atStart => exact ⟨0, by omega, rfl, fun h => by omega, fun h => by omega, rfl⟩
  case round =>
    obtain ⟨i, hi, rfl, h0, h1, hwr⟩ := hrel
    have hwr2 := hwr.symm
    clear hwr
    subst hwr2
    rcases (by omega : i = 0 ∨ i = 1 ∨ i = 2) with rfl | rfl | rfl
    · by_cases ha : a = 0
      · have e1 : (a != 0) = false := by simp [ha]
        go_wp2_with fail
        go_roundw
        case rel => exact ⟨1, by omega, rfl, fun _ => ha, fun h => by omega, by trivial⟩
        case measure => simp [intOf]
      · have e1 : (a != 0) = true := by simp [ha]
        obtain rfl := HV.out.2 ha
        go_wp2_with fail
        go_ret
        exact ⟨rfl, rfl⟩
    · have ha := h0 (by omega)
      by_cases hb : b = 0
      · have e1 : (b != 0) = false := by simp [hb]
        go_wp2_with fail
        go_roundw
        case rel => exact ⟨2, by omega, rfl, fun _ => ha, fun _ => hb, by trivial⟩
        case measure => simp [intOf]
      · have e1 : (b != 0) = true := by simp [hb]
        obtain rfl := HV.out.1 ha
        go_wp2_with fail
        go_ret
        exact ⟨rfl, rfl⟩
    · have ha := h0 (by omega)
      have hb := h1 (by omega)
      obtain rfl : (0 : Int) = V := by rw [← hb]; exact HV.out.1 ha
      go_wp2_with fail
      go_ret
      exact ⟨rfl, rfl⟩
/-- the comparison of two places -/
def cfR (rs : Nat → Nat) (n : Nat) (x y : Fin n) : Int := or2 (c3 ((rs y.val : Nat) : Int) ((rs x.val : Nat) : Int)) (c3 ((x.val : Nat) : Int) ((y.val : Nat) : Int))
theorem ltR (rs : Nat → Nat) (n : Nat) (x y : Fin n) : ltOf (cfR rs n) x y = true ↔ rlt rs x.val y.val := by
  unfold ltOf cfR or2 c3 rlt
  simp only [decide_eq_true_eq]
  repeat' split
  all_goals omega
theorem ltR' (rs : Nat → Nat) (n : Nat) (x y : Fin n) : ltOf (cfR rs n) x y = false ↔ ¬ rlt rs x.val y.val := by
  rw [← Bool.not_eq_true, ltR]
theorem swoR (rs : Nat → Nat) (n : Nat) : SWO (ltOf (cfR rs n)) where
  irrefl x := by rw [ltR']; unfold rlt; omega
  trans x y z h1 h2 := by rw [ltR] at *; unfold rlt at *; omega
  ntrans x y z h1 h2 := by rw [ltR'] at *; unfold rlt at *; omega
set_option maxHeartbeats 2000000 in
set_option maxRecDepth 100000 in
theorem clo36 (rs : Nat → Nat) (n gv gr : Nat) (x y : Fin n) (w : World) (hn : n ≤ 100000) (hv : Bx w gv 60 #[.slice (some ⟨gr, 0, none⟩) n n]) (hr : ∀ i, i < n → w.cell? ⟨gr, i, none⟩ = some (.int .u64 ((rs i : Nat) : Int))) (hgr : gr < w.heap.size) :
    Calls Tryd.prog 36 #[.int .i64 ((x.val : Nat) : Int), .int .i64 ((y.val : Nat) : Int), .pointer (some ⟨gv, 0, none⟩)] w fun e w' => e = .returned (.int .i64 (cfR rs n x y)) ∧ ∃ q os', w' = grow (w.drewN q) os' := by
  obtain ⟨i, hi⟩ := x
  obtain ⟨j, hj⟩ := y
  obtain ⟨ri, hri⟩ : ∃ r, rs i = r := ⟨_, rfl⟩
  obtain ⟨rj, hrj⟩ : ∃ r, rs j = r := ⟨_, rfl⟩
  have c1 := hr i hi
  have c2 := hr j hj
  rw [hri] at c1
  rw [hrj] at c2
  have c0 := (hv.cell 0).trans rfl
  have hlt := hv.lt
  have hiI : (i : Int) < (n : Int) := by omega
  have hjI : (j : Int) < (n : Int) := by omega
  show Calls Tryd.prog 36 _ w fun e w' => e = .returned (.int .i64 (or2 (c3 ((rs j : Nat) : Int) ((rs i : Nat) : Int)) (c3 (i : Int) (j : Int)))) ∧ _
  rw [hri, hrj]
  obtain ⟨a, ha⟩ : ∃ a, c3 (rj : Int) (ri : Int) = a := ⟨_, rfl⟩
  obtain ⟨b, hb⟩ : ∃ b, c3 (i : Int) (j : Int) = b := ⟨_, rfl⟩
  have H38 : Hid (∀ W, Calls Tryd.prog 38 #[.int .u64 (rj : Int), .int .u64 (ri : Int)] W fun e w' => e = .returned (.int .i64 a) ∧ w' = W) := Lib.hid (fun W => by rw [← ha]; exact cmp38 _ _ W)
  have H39 : Hid (∀ W, Calls Tryd.prog 39 #[.int .i64 (i : Int), .int .i64 (j : Int)] W fun e w' => e = .returned (.int .i64 b) ∧ w' = W) := Lib.hid (fun W => by rw [← hb]; exact cmp39 _ _ W)
  rw [ha, hb]
  clear hr hv ha hb hri hrj
  go_enter Tryd.func36, Tryd.ntmps36
  go_wp2_with fail
  go_still_tail 12, (by kernel_rfl)
  still_call (H38.out _)
  repeat still_step
  still_call (H39.out _)
  repeat still_step
  refine wpStill_nil ?_
  go_wp2_with fail
  refine (or37 a b _ _ ((Bx.new w 3 #[.int .i64 a, .int .i64 b]).next (Below.refl _ _).drew)).mono ?_
  rintro e w1 ⟨rfl, rfl⟩
  go_wp2_with fail
  go_ret
  exact ⟨rfl, 1, #[.cells #[.int .i64 a, .int .i64 b] 3 (0, 0)], by rw [alloc_eq_grow]; rfl⟩
end Go.Proofs.YtjipcopfggnlkaaDoor.Wk
