/- The contract of refill.Run, whatever its arguments. Conditions: the slices read as lists. -/
import Derived.Test.YtodkcnhdiddbkaaRun
set_option linter.unusedSimpArgs false
set_option linter.unusedVariables false
namespace Go.Proofs.Ytodkcnhdiddbkaa.Wk
open Go.RowKit
open Go.Proofs.Ytodkcnhdiddbkaa.Mt
/-- the result's cell, as it lies behind the check -/
theorem start_zb {b c t v : Int} {w w1 : World} (hb1 : Below ((w.alloc (.cells #[Value.int .i64 b, .int .i64 c, .int .i64 t, .int .i64 v] 23)).alloc (.cells #[Value.int .i64 0, .int .i64 0, .int .i64 0] 30)).heap.size ((w.alloc (.cells #[Value.int .i64 b, .int .i64 c, .int .i64 t, .int .i64 v] 23)).alloc (.cells #[Value.int .i64 0, .int .i64 0, .int .i64 0] 30)) w1) :
    Bx w1 (w.heap.size + 1) 30 #[.int .i64 0, .int .i64 0, .int .i64 0] ∧ Below w.heap.size w w1 :=
  ⟨keep_block (by have := heap_alloc_new (w.alloc (.cells #[Value.int .i64 b, .int .i64 c, .int .i64 t, .int .i64 v] 23)) (.cells #[Value.int .i64 0, .int .i64 0, .int .i64 0] 30); simpa using this) hb1 (by simp), (b2 _ _ _).trans (hb1.mono (by simp; omega))⟩
theorem zb_cells {w : World} {g : Nat} (h : Bx w g 30 #[.int .i64 0, .int .i64 0, .int .i64 0]) : w.cell? ⟨g, 0, none⟩ = some (.int .i64 0) ∧ w.cell? ⟨g, 1, none⟩ = some (.int .i64 0) ∧ w.cell? ⟨g, 2, none⟩ = some (.int .i64 0) :=
  ⟨(h.cell 0).trans rfl, (h.cell 1).trans rfl, (h.cell 2).trans rfl⟩
set_option maxHeartbeats 1000000 in
set_option maxRecDepth 100000 in
theorem run_any (b c t v bal : Int) (A : Option Addr) (n k0 : Nat) (zs : List Int) (A2 : Option Addr) (m k2 : Nat) (os : List Bool) (w : World) (h1 : Ri w w.heap.size A n zs) (h2 : Rb w w.heap.size A2 m os) :
    Calls Try.prog 22 #[.agg #[.int .i64 b, .int .i64 c, .int .i64 t, .int .i64 v], .int .i64 bal, .slice A n k0, .slice A2 m k2] w (RunPost w (runS ⟨b, c, t, v⟩ bal zs os)) := by
  by_cases hc : chk ⟨b, c, t, v⟩ = 0
  · by_cases h9 : 1024 < n
    · have HH := Lib.hid (run_long (bal := bal) (oks := os) hc (by rw [h1.1]; exact h9))
      have HC := Lib.hid hc
      have hn := h1.2.1
      clear hc h1 h2
      go_enter Try.func22, Try.ntmps22
      go_wp2_with fail
      refine (check_any b c t v _).mono ?_
      rintro e w1 ⟨he, hb1⟩
      rw [HC.out] at he
      subst he
      have HZ := Lib.hid (start_zb hb1)
      obtain ⟨x0, x1, x2⟩ := zb_cells HZ.out.1
      have x3 := HZ.out.1.free 0
      have x4 := HZ.out.1.free 1
      have x5 := HZ.out.1.free 2
      clear hb1
      go_wp2_with fail
      exact bodyPost_ret (v := .tuple #[.slice none 0 0, .agg #[.int .i64 0, .int .i64 0, .int .i64 0], .int .i64 3]) (by simp [results, Try.results22, go_sem, x0, x1, x2, x3, x4, x5]) rfl (run_post_nil HH.out (below_set3 HZ.out.2 (by omega) _ _ _))
    · rcases fot (fit bal) with hf | hf
      · have HH := Lib.hid (run_fit (oks := os) hc (by rw [h1.1]; exact h9) hf)
        have HC := Lib.hid hc
        have HF := Lib.hid hf
        have hn := h1.2.1
        clear hc h1 h2 hf
        go_enter Try.func22, Try.ntmps22
        go_wp2_with fail
        refine (check_any b c t v _).mono ?_
        rintro e w1 ⟨he, hb1⟩
        rw [HC.out] at he
        subst he
        have HZ := Lib.hid (start_zb hb1)
        obtain ⟨x0, x1, x2⟩ := zb_cells HZ.out.1
        have x3 := HZ.out.1.free 0
        have x4 := HZ.out.1.free 1
        have x5 := HZ.out.1.free 2
        clear hb1
        go_wp2_with fail
        refine (fits_no _ _ HF.out).mono ?_
        rintro e _ ⟨rfl, rfl⟩
        go_wp2_with fail
        exact bodyPost_ret (v := .tuple #[.slice none 0 0, .agg #[.int .i64 0, .int .i64 0, .int .i64 0], .int .i64 13]) (by simp [results, Try.results22, go_sem, x0, x1, x2, x3, x4, x5]) rfl (run_post_nil HH.out (below_set3 HZ.out.2 (by omega) _ _ _))
      · exact run_loop b c t v bal A n k0 zs A2 m k2 os w h1 h2 hc h9 hf
  · have HH := Lib.hid (run_chk (bal := bal) (moves := zs) (oks := os) hc)
    obtain ⟨x, hx⟩ : ∃ x, chk ⟨b, c, t, v⟩ = x := ⟨_, rfl⟩
    have hh := HH.out
    rw [hx] at hc hh
    have HC := Lib.hid hx
    have hx1 : (x == 0) = false := by simpa using hc
    have hx2 : (x != 0) = true := by simpa using hc
    have HH := Lib.hid hh
    clear hc hx hh h1 h2
    go_enter Try.func22, Try.ntmps22
    go_wp2_with fail
    refine (check_any b c t v _).mono ?_
    rintro e w1 ⟨he, hb1⟩
    rw [HC.out] at he
    subst he
    have HZ := Lib.hid (start_zb hb1)
    obtain ⟨x0, x1, x2⟩ := zb_cells HZ.out.1
    have x3 := HZ.out.1.free 0
    have x4 := HZ.out.1.free 1
    have x5 := HZ.out.1.free 2
    clear hb1
    go_wp2_with fail
    exact bodyPost_ret (v := .tuple #[.slice none 0 0, .agg #[.int .i64 0, .int .i64 0, .int .i64 0], .int .i64 x]) (by simp [results, Try.results22, go_sem, x0, x1, x2, x3, x4, x5]) rfl (run_post_nil HH.out (below_set3 HZ.out.2 (by omega) _ _ _))

theorem eq_of_at {xs ys : List Int} {n : Nat} (h1 : xs.length = n) (h2 : ys.length = n) (h : ∀ i, i < n → xs.getD i 0 = ys.getD i 0) : xs = ys := by
  apply List.ext_getElem (by omega)
  intro i hi hj
  have := h i (by omega)
  simpa [List.getD, List.getElem?_eq_getElem hi, List.getElem?_eq_getElem hj] using this
/-- do two lists of numbers hold the same? -/
theorem same_any (A B : Option Addr) (n k0 m k2 : Nat) (xs ys : List Int) (w : World) (h1 : Ri w w.heap.size A n xs) (h2 : Ri w w.heap.size B m ys) :
    Calls Try.prog 24 #[.slice A n k0, .slice B m k2] w fun e w' => e = .returned (.bool (decide (xs = ys))) ∧ Below w.heap.size w w' := by
  have hn := h1.2.1
  have hm := h2.2.1
  have HA := Lib.hid h1
  have HB := Lib.hid h2
  by_cases hnm : n = m
  · subst hnm
    have HL1 := Lib.hid h1.1
    have HL2 := Lib.hid h2.1
    clear h1 h2
    go_enter Try.func24, Try.ntmps24
    go_wp2
    go_loopw [5] (fun i wr => ∃ k : Nat, k ≤ n ∧ i = .int .i64 k ∧ Below w.heap.size w wr ∧ Hid (∀ i, i < k → xs.getD i 0 = ys.getD i 0)) (fun i _ => n - (intOf i).toNat)
    case atStart => exact ⟨0, Nat.zero_le _, rfl, Below.refl _ _, Lib.hid (fun i hi => by omega)⟩
    case round =>
      obtain ⟨k, hk, rfl, hb, HE⟩ := hrel
      by_cases hlt : k < n
      · obtain ⟨b1, o1, rfl, _, c1⟩ := (HA.out.below hb (Nat.le_refl _)).at_ hlt
        obtain ⟨b2, o2, rfl, _, c2⟩ := (HB.out.below hb (Nat.le_refl _)).at_ hlt
        have hltI : (k : Int) < (n : Int) := by omega
        by_cases he : xs.getD k 0 = ys.getD k 0
        · have HX : Hid (∀ i, i < k + 1 → xs.getD i 0 = ys.getD i 0) := Lib.hid (by
            intro i hi
            rcases Nat.lt_or_ge i k with h | h
            · exact HE.out i h
            · have : i = k := by omega
              subst this; exact he)
          obtain ⟨x, hx⟩ : ∃ x, xs.getD k 0 = x := ⟨_, rfl⟩
          rw [hx] at c1 he
          rw [← he] at c2
          have g1 : (x == x) = true := by simp
          have g2 : (x != x) = false := by simp
          clear hx he
          go_wp2
          go_quiet (fail)
          go_wp2
          go_roundw
          case rel => exact ⟨k + 1, by omega, by go_num, below_drewN hb _, HX⟩
          case measure => simp [intOf]; omega
        · have HX : Hid (decide (xs = ys) = false) := Lib.hid (decide_eq_false (fun e => he (by rw [e])))
          obtain ⟨x, hx⟩ : ∃ x, xs.getD k 0 = x := ⟨_, rfl⟩
          obtain ⟨y, hy⟩ : ∃ y, ys.getD k 0 = y := ⟨_, rfl⟩
          rw [hx] at c1 he
          rw [hy] at c2 he
          have g1 : (x == y) = false := by simpa using he
          have g2 : (x != y) = true := by simpa using he
          clear hx hy he
          go_wp2
          go_quiet (fail)
          go_wp2
          go_ret
          exact ⟨by rw [HX.out]; rfl, below_drewN hb _⟩
      · have HX : Hid (decide (xs = ys) = true) := Lib.hid (decide_eq_true (eq_of_at HL1.out HL2.out (fun i hi => HE.out i (by omega))))
        go_wp2
        go_ret
        exact ⟨by rw [HX.out]; rfl, hb⟩
  · have HH : Hid (decide (xs = ys) = false) := Lib.hid (by
      apply decide_eq_false
      intro e
      exact hnm (by rw [← h1.1, ← h2.1, e]))
    have g1 : ((n : Int) == (m : Int)) = false := by simp; omega
    have g2 : ((n : Int) != (m : Int)) = true := by simp; omega
    clear h1 h2 hnm
    go_enter Try.func24, Try.ntmps24
    go_wp2
    go_ret
    exact ⟨by rw [HH.out]; rfl, Below.refl _ _⟩
end Go.Proofs.Ytodkcnhdiddbkaa.Wk
