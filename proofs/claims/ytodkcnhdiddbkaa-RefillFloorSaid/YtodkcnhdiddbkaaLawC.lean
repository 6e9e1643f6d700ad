/- The contract of the reference's Run, and the law RefillRuns. Conditions: the slices read as lists. -/
import Derived.Test.YtodkcnhdiddbkaaRrun
set_option linter.unusedSimpArgs false
set_option linter.unusedVariables false
namespace Go.Proofs.Ytodkcnhdiddbkaa.Wk
open Go.RowKit
open Go.Proofs.Ytodkcnhdiddbkaa.Mt
theorem start_zb3 {b c t v : Int} {w w1 : World} (hb1 : Below (((w.alloc (.cells #[Value.int .i64 b, .int .i64 c, .int .i64 t, .int .i64 v] 23)).alloc (.cells #[Value.int .i64 0, .int .i64 0, .int .i64 0] 30)).alloc (.cells #[Value.int .i64 0, .int .i64 0, .int .i64 0] 30)).heap.size (((w.alloc (.cells #[Value.int .i64 b, .int .i64 c, .int .i64 t, .int .i64 v] 23)).alloc (.cells #[Value.int .i64 0, .int .i64 0, .int .i64 0] 30)).alloc (.cells #[Value.int .i64 0, .int .i64 0, .int .i64 0] 30)) w1) :
    Bx w1 (w.heap.size + 1) 30 #[.int .i64 0, .int .i64 0, .int .i64 0] ∧ Bx w1 (w.heap.size + 1 + 1) 30 #[.int .i64 0, .int .i64 0, .int .i64 0] ∧ Below w.heap.size w w1 :=
  ⟨((Bx.newAt (by simp)).alloc _).next hb1, (Bx.newAt (by simp)).next hb1, upB (b3 _ _ _ _) hb1⟩
set_option maxHeartbeats 1000000 in
set_option maxRecDepth 100000 in
theorem Run_any (b c t v bal : Int) (A : Option Addr) (n k0 : Nat) (zs : List Int) (A2 : Option Addr) (m k2 : Nat) (os : List Bool) (w : World) (h1 : Ri w w.heap.size A n zs) (h2 : Rb w w.heap.size A2 m os) :
    Calls Try.prog 23 #[.agg #[.int .i64 b, .int .i64 c, .int .i64 t, .int .i64 v], .int .i64 bal, .slice A n k0, .slice A2 m k2] w (RunPost w (runS ⟨b, c, t, v⟩ bal zs os)) := by
  by_cases hc : chk ⟨b, c, t, v⟩ = 0
  · by_cases h9 : 1024 < n
    · have HH := Lib.hid (run_long (bal := bal) (oks := os) hc (by rw [h1.1]; exact h9))
      have HC := Lib.hid hc
      have hn := h1.2.1
      clear hc h1 h2
      go_enter Try.func23, Try.ntmps23
      go_wp2_with fail
      refine (Check_any b c t v _).mono ?_
      rintro e w1 ⟨he, hb1⟩
      rw [HC.out] at he
      subst he
      have HZ := Lib.hid (start_zb3 hb1)
      obtain ⟨x0, x1, x2⟩ := zb_cells HZ.out.1
      obtain ⟨v0, v1, v2⟩ := zb_cells HZ.out.2.1
      have x3 := HZ.out.1.free 0
      have x4 := HZ.out.1.free 1
      have x5 := HZ.out.1.free 2
      clear hb1
      go_wp2_with fail
      go_region
      go_wp2_with fail
      exact bodyPost_ret (v := .tuple #[.slice none 0 0, .agg #[.int .i64 0, .int .i64 0, .int .i64 0], .int .i64 3]) (by simp [results, Try.results23, go_sem, x0, x1, x2, x3, x4, x5]) rfl (run_post_nil HH.out ((below_set3 HZ.out.2.2 (by omega) _ _ _).drew))
    · rcases fot (fit bal) with hf | hf
      · have HH := Lib.hid (run_fit (oks := os) hc (by rw [h1.1]; exact h9) hf)
        have HC := Lib.hid hc
        have HF := Lib.hid hf
        have hn := h1.2.1
        clear hc h1 h2 hf
        go_enter Try.func23, Try.ntmps23
        go_wp2_with fail
        refine (Check_any b c t v _).mono ?_
        rintro e w1 ⟨he, hb1⟩
        rw [HC.out] at he
        subst he
        have HZ := Lib.hid (start_zb3 hb1)
        obtain ⟨x0, x1, x2⟩ := zb_cells HZ.out.1
        obtain ⟨v0, v1, v2⟩ := zb_cells HZ.out.2.1
        have x3 := HZ.out.1.free 0
        have x4 := HZ.out.1.free 1
        have x5 := HZ.out.1.free 2
        clear hb1
        go_wp2_with fail
        refine (Fits_no _ _ HF.out).mono ?_
        rintro e _ ⟨rfl, rfl⟩
        go_wp2_with fail
        go_region
        go_wp2_with fail
        exact bodyPost_ret (v := .tuple #[.slice none 0 0, .agg #[.int .i64 0, .int .i64 0, .int .i64 0], .int .i64 13]) (by simp [results, Try.results23, go_sem, x0, x1, x2, x3, x4, x5]) rfl (run_post_nil HH.out ((below_set3 HZ.out.2.2 (by omega) _ _ _).drew))
      · exact Run_loop b c t v bal A n k0 zs A2 m k2 os w h1 h2 hc h9 hf
  · have HH := Lib.hid (run_chk (bal := bal) (moves := zs) (oks := os) hc)
    obtain ⟨x, hx⟩ : ∃ x, chk ⟨b, c, t, v⟩ = x := ⟨_, rfl⟩
    have hh := HH.out
    rw [hx] at hc hh
    have HC := Lib.hid hx
    have hx1 : (x == 0) = false := by simpa using hc
    have hx2 : (x != 0) = true := by simpa using hc
    have HH := Lib.hid hh
    clear hc hx hh h1 h2
    go_enter Try.func23, Try.ntmps23
    go_wp2_with fail
    refine (Check_any b c t v _).mono ?_
    rintro e w1 ⟨he, hb1⟩
    rw [HC.out] at he
    subst he
    have HZ := Lib.hid (start_zb3 hb1)
    obtain ⟨x0, x1, x2⟩ := zb_cells HZ.out.1
    obtain ⟨v0, v1, v2⟩ := zb_cells HZ.out.2.1
    have x3 := HZ.out.1.free 0
    have x4 := HZ.out.1.free 1
    have x5 := HZ.out.1.free 2
    clear hb1
    go_wp2_with fail
    go_region
    go_wp2_with fail
    exact bodyPost_ret (v := .tuple #[.slice none 0 0, .agg #[.int .i64 0, .int .i64 0, .int .i64 0], .int .i64 x]) (by simp [results, Try.results23, go_sem, x0, x1, x2, x3, x4, x5]) rfl (run_post_nil HH.out ((below_set3 HZ.out.2.2 (by omega) _ _ _).drew))

theorem Ri.up {w w' : World} {A : Option Addr} {n : Nat} {zs : List Int} (h : Ri w w.heap.size A n zs) (hb : Below w.heap.size w w') : Ri w' w'.heap.size A n zs := by
  have h2 := h.below hb (Nat.le_refl _)
  exact ⟨h2.1, h2.2.1, fun h => by obtain ⟨b, off, e, hb', hc⟩ := h2.2.2 h; exact ⟨b, off, e, Nat.lt_of_lt_of_le hb' hb.size, hc⟩⟩
theorem Rb.up {w w' : World} {A : Option Addr} {n : Nat} {zs : List Bool} (h : Rb w w.heap.size A n zs) (hb : Below w.heap.size w w') : Rb w' w'.heap.size A n zs := by
  have h2 := h.below hb (Nat.le_refl _)
  exact ⟨h2.1, h2.2.1, fun h => by obtain ⟨b, off, e, hb', hc⟩ := h2.2.2 h; exact ⟨b, off, e, Nat.lt_of_lt_of_le hb' hb.size, hc⟩⟩
/-- an owned row of numbers reads as its list, nil or not -/
theorem Ri.owned {w : World} {base : Nat} {v : Value} {zs : List Int} (h : w.ownsRow base 3 1 v zs.length (zs.map (Value.int .i64))) (hl : zs.length ≤ 9223372036854775807) : ∃ A c, v = .slice A zs.length c ∧ Ri w w.heap.size A zs.length zs := by
  rcases Nat.eq_zero_or_pos zs.length with h0 | h0
  · have hz : zs = [] := List.eq_nil_of_length_eq_zero h0
    subst hz
    rcases h.2 with ⟨hv, _⟩ | ⟨g, cap, cur, hv, _⟩
    · exact ⟨none, 0, hv, rfl, by simp, fun h => absurd h (by simp)⟩
    · exact ⟨_, cap, hv, rfl, by simp, fun h => absurd h (by simp)⟩
  · obtain ⟨g, cap, hv, _, _⟩ := h.form h0
    subst hv
    exact ⟨_, cap, rfl, Ri.own h hl h0⟩
theorem rloop_len {r : Ru} {oks : List Bool} : ∀ (l : List Int) (st st' : St) (k : Nat), rloop r oks st k l = some st' → st'.out.length = st.out.length + l.length := by
  intro l
  induction l with
  | nil => intro st st' k h; injection h with h; subst h; simp
  | cons m rest ih =>
    intro st st' k h
    rw [rloop] at h
    split at h
    · cases h
    · rename_i st1 hs
      have h1 := ih _ _ _ h
      have h2 : st1.out.length = st.out.length + 1 := by
        unfold rstep at hs
        split at hs
        · cases hs
        · split at hs
          · split at hs
            · split at hs
              · cases hs
              · injection hs with hs; subst hs; simp
            · injection hs with hs; subst hs; simp
          · injection hs with hs; subst hs; simp
      simp only [List.length_cons]
      omega
theorem run_len (r : Ru) (bal : Int) (l : List Int) (oks : List Bool) : (runS r bal l oks).1.length ≤ 1024 ∧ ((runS r bal l oks).2.2 = 0 → (runS r bal l oks).1.length = l.length) ∧ ((runS r bal l oks).2.2 ≠ 0 → (runS r bal l oks).1 = []) := by
  unfold runS
  split
  · rename_i h; exact ⟨by simp, fun h2 => absurd h2 h, fun _ => rfl⟩
  · split
    · exact ⟨by simp, fun h => by simp at h, fun _ => rfl⟩
    · split
      · exact ⟨by simp, fun h => by simp at h, fun _ => rfl⟩
      · split
        · exact ⟨by simp, fun h => by simp at h, fun _ => rfl⟩
        · rename_i st hs
          have := rloop_len _ _ _ _ hs
          simp at this
          exact ⟨by simp only; omega, fun _ => by simp only; omega, fun h => absurd rfl h⟩

set_option maxHeartbeats 2000000 in
set_option maxRecDepth 100000 in
theorem runs_law (b c t v bal : Int) (A : Option Addr) (n k0 : Nat) (zs : List Int) (A2 : Option Addr) (m k2 : Nat) (os : List Bool) (w : World) (h1 : Ri w w.heap.size A n zs) (h2 : Rb w w.heap.size A2 m os) :
    Calls Try.prog 6 #[.agg #[.int .i64 b, .int .i64 c, .int .i64 t, .int .i64 v], .int .i64 bal, .slice A n k0, .slice A2 m k2] w fun e w' => e = .returned (.bool true) ∧ Below w.heap.size w w' := by
  have hn := h1.2.1
  have hm := h2.2.1
  have HA := Lib.hid h1
  have HO := Lib.hid h2
  clear h1 h2
  by_cases g1 : 200 < n
  · go_enter Try.func6, Try.ntmps6
    go_wp2_with fail
    go_ret
    exact ⟨rfl, b1 _ _⟩
  · by_cases g2 : 200 < m
    · go_enter Try.func6, Try.ntmps6
      go_wp2_with fail
      go_ret
      exact ⟨rfl, b1 _ _⟩
    · have hrl := run_len ⟨b, c, t, v⟩ bal zs os
      obtain ⟨⟨out, ⟨s, g, q⟩, er⟩, hr⟩ : ∃ p, runS ⟨b, c, t, v⟩ bal zs os = p := ⟨_, rfl⟩
      have HX := Lib.hid hr
      rw [hr] at hrl
      have HL := Lib.hid hrl.1
      clear hr hrl
      have hA0 := b1 w (.cells #[.int .i64 b, .int .i64 c, .int .i64 t, .int .i64 v] 23)
      have HR0 := Lib.hid (Bx.new w 23 #[.int .i64 b, .int .i64 c, .int .i64 t, .int .i64 v])
      go_enter Try.func6, Try.ntmps6
      go_wp2_with fail
      refine (run_any b c t v bal A n k0 zs A2 m k2 os _ (HA.out.up hA0) (HO.out.up hA0)).mono ?_
      rintro e w1 ⟨vs, he, ho, hb1⟩
      rw [HX.out] at he ho
      have he : e = .returned (.tuple #[vs, .agg #[.int .i64 s, .int .i64 g, .int .i64 q], .int .i64 er]) := he
      subst he
      obtain ⟨A5, c5, rfl, _⟩ := Ri.owned ho (Nat.le_trans (m := 1024) HL.out (by omega))
      have HO1 := Lib.hid ho
      have hA1 := upB hA0 hb1
      have HR1 := Lib.hid (HR0.out.next hb1)
      clear ho hb1 hA0 HR0
      obtain ⟨c0, c1, c2, c3⟩ := HR1.out.cells4
      have l1 := HR1.out.lt
      go_wp2_with fail
      refine (Run_any b c t v bal A n k0 zs A2 m k2 os _ (HA.out.up (hA1.alloc hA1.size _)) (HO.out.up (hA1.alloc hA1.size _))).mono ?_
      rintro e w2 ⟨vs2, he, ho, hb2⟩
      rw [HX.out] at he ho
      have he : e = .returned (.tuple #[vs2, .agg #[.int .i64 s, .int .i64 g, .int .i64 q], .int .i64 er]) := he
      subst he
      obtain ⟨A6, c6, rfl, _⟩ := Ri.owned ho (Nat.le_trans (m := 1024) HL.out (by omega))
      have HO2 := Lib.hid ho
      have HO12 := Lib.hid (own_below (HO1.out.alloc _) hb2)
      have HF2 : Hid (Bx w2 w1.heap.size 30 #[.int .i64 s, .int .i64 g, .int .i64 q]) := Lib.hid ((Bx.new _ _ _).next hb2)
      have hA2 := upB (hA1.alloc hA1.size _) hb2
      clear ho hb2 hA1 HR1 HO1 c0 c1 c2 c3 l1
      go_wp2_with fail
      obtain ⟨A7, c7, e7, h7⟩ := Ri.owned (HO12.out.alloc (.cells #[.int .i64 s, .int .i64 g, .int .i64 q] 30)) (Nat.le_trans (m := 1024) HL.out (by omega))
      obtain ⟨A8, c8, e8, h8⟩ := Ri.owned (HO2.out.alloc (.cells #[.int .i64 s, .int .i64 g, .int .i64 q] 30)) (Nat.le_trans (m := 1024) HL.out (by omega))
      injection e7 with e71 e72 e73
      injection e8 with e81 e82 e83
      subst e71 e73 e81 e83
      refine (same_any _ _ out.length _ out.length _ out out _ h7 h8).mono ?_
      rintro e w3 ⟨rfl, hb3⟩
      have HF3 := Lib.hid ((HF2.out.alloc _).next hb3)
      have HG3 : Hid (Bx w3 w2.heap.size 30 #[.int .i64 s, .int .i64 g, .int .i64 q]) := Lib.hid ((Bx.new _ _ _).next hb3)
      have hA3 := upB (hA2.alloc hA2.size _) hb3
      clear hb3 hA2 HF2 HO12 HO2 h7 h8 e72 e82
      rw [decide_eq_true rfl]
      obtain ⟨c0, c1, c2⟩ := HF3.out.cells3
      obtain ⟨c3, c4, c8⟩ := HG3.out.cells3
      go_wp2_with fail
      refine (alive_any _).mono ?_
      rintro e w4 ⟨rfl, hb4⟩
      have hA4 := upB hA3 hb4
      go_wp2_with fail
      go_ret
      exact ⟨rfl, hA4⟩
end Go.Proofs.Ytodkcnhdiddbkaa.Wk
