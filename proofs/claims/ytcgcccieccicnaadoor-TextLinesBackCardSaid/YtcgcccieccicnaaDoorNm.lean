/- Whether a string is a name, in the layer and in its reference. No condition. -/
import Derived.Test.YtcgcccieccicnaaDoorRw
set_option linter.unusedSimpArgs false
set_option linter.unusedVariables false
namespace Go.Proofs.YtcgcccieccicnaaDoor.Mt
open Go
def Okn (i : Nat) (x : Int) : Prop := (97 ≤ x ∧ x ≤ 122) ∨ (i ≠ 0 ∧ ((48 ≤ x ∧ x ≤ 57) ∨ x = 45))
def Nmp (s : ByteArray) : Prop := 1 ≤ s.size ∧ s.size ≤ 12 ∧ ∀ i, i < s.size → Okn i (bt s i)
noncomputable def nmB (s : ByteArray) : Bool := by
  classical
  exact decide (Nmp s)
theorem nmB_yes {s : ByteArray} (h : Nmp s) : nmB s = true := by unfold nmB; exact @decide_eq_true _ (Classical.propDecidable _) h
theorem nmB_no {s : ByteArray} (h : ¬ Nmp s) : nmB s = false := by unfold nmB; exact @decide_eq_false _ (Classical.propDecidable _) h
theorem seven (x : Int) : x < 45 ∨ x = 45 ∨ (45 < x ∧ x < 48) ∨ (48 ≤ x ∧ x ≤ 57) ∨ (57 < x ∧ x < 97) ∨ (97 ≤ x ∧ x ≤ 122) ∨ 122 < x := by omega
end Go.Proofs.YtcgcccieccicnaaDoor.Mt
namespace Go.Proofs.YtcgcccieccicnaaDoor.Wk
open Go.RowKit
open Go.Proofs.YtcgcccieccicnaaDoor.Mt
set_option maxHeartbeats 4000000 in
set_option maxRecDepth 100000 in
theorem name14 (s : ByteArray) (w : World) : Calls Tryd.prog 14 #[.string s] w fun e w' => e = .returned (.bool (nmB s)) ∧ Below w.heap.size w w' := by
  obtain ⟨n, hn⟩ : ∃ n, s.size = n := ⟨_, rfl⟩
  have HN := Lib.hid hn
  have hsz : ((s.size : Nat) : Int) = (n : Int) := by omega
  by_cases h0 : n = 0
  · have he : s = { data := #[] } := by
      apply ByteArray.ext
      exact Array.eq_empty_of_size_eq_zero (show s.size = 0 by omega)
    have HE := Lib.hid (nmB_no (s := s) (fun h => by have := h.1; omega))
    have e0b : s.toList = [] := by rw [he, ByteArray.toList_eq]
    have e0 : s.toList.isEmpty = true := by rw [e0b]; rfl
    clear he hn h0
    go_enter Tryd.func14, Tryd.ntmps14
    go_wp2_with fail
    go_ret
    exact ⟨by rw [HE.out]; rfl, Below.refl _ _⟩
  · have e0b : ¬ s.toList = [] := by
      intro h
      have h2 := congrArg List.length h
      rw [ByteArray.toList_eq, Array.length_toList] at h2
      have h3 : s.size = 0 := h2
      omega
    have e0 : s.toList.isEmpty = false := by
      cases h : s.toList with
      | nil => exact absurd h e0b
      | cons => rfl
    by_cases h12 : 12 < n
    · have q1 : (12 : Int) < (n : Int) := by omega
      have HE := Lib.hid (nmB_no (s := s) (fun h => by have := h.2.1; omega))
      clear hn
      go_enter Tryd.func14, Tryd.ntmps14
      go_wp2_with fail
      go_ret
      exact ⟨by rw [HE.out]; rfl, Below.refl _ _⟩
    · have q1 : decide ((12 : Int) < (n : Int)) = false := decide_eq_false (by omega)
      clear hn
      go_enter Tryd.func14, Tryd.ntmps14
      go_wp2_with fail
      clear e0 e0b q1
      go_loopw [3] (fun _ wr => ∃ pos : Nat, pos ≤ n ∧ (∀ i, i < pos → Okn i (bt s i)) ∧ wr.heap[w.heap.size]? = some (.stringIter s pos) ∧ Hid (Below w.heap.size w wr)) (fun _ wr => n - wr.iterPos w.heap.size)
      case atStart => exact ⟨0, Nat.zero_le _, fun i hi => by omega, World.iter_heap w s 0, Lib.hid (b1 _ _)⟩
      case round =>
        obtain ⟨pos, hpos, hD, hit, HB⟩ := hrel
        have HD := Lib.hid hD
        clear hD
        have hgl : w.heap.size < wr.heap.size := (Array.getElem?_eq_some_iff.1 hit).1
        by_cases hlt : pos < n
        · have hlt2 : Hid (pos < s.size) := Lib.hid (by rw [HN.out]; exact hlt)
          have HNX : Hid (Okn pos (bt s pos) → ∀ i, i < pos + 1 → Okn i (bt s i)) := Lib.hid (fun h i hi => by
            rcases Nat.lt_or_ge i pos with h1 | h1
            · exact HD.out i h1
            · obtain rfl : i = pos := by omega
              exact h)
          have HNO : Hid (¬ Okn pos (bt s pos) → nmB s = false) := Lib.hid (fun h => nmB_no (fun h2 => h (h2.2.2 pos hlt2.out)))
          by_cases h128 : bt s pos < 128
          · have hnx : ∀ ty, (Instr.next (.pointer (some ⟨w.heap.size, 0, none⟩)) true ty).run Tryd.prog wr = _ := fun ty => next_ascii wr w.heap.size s pos hit hlt2.out h128 ty
            have hit2 := Lib.iterAt_heap wr w.heap.size s pos (pos + 1) hit
            have HB2 := Lib.hid (Lib.below_iterAt HB.out (k := w.heap.size) (Nat.le_refl _) s (pos + 1))
            obtain ⟨x, hx⟩ : ∃ x, bt s pos = x := ⟨_, rfl⟩
            rw [hx] at hnx HNX HNO
            clear hx h128
            rcases seven x with hx | hx | hx | hx | hx | hx | hx
            · have HE := Lib.hid (HNO.out (fun h => by unfold Okn at h; omega))
              have d1 : decide (97 ≤ x) = false := decide_eq_false (by omega)
              have d2 : x ≤ 122 := by omega
              have d3 : decide (48 ≤ x) = false := decide_eq_false (by omega)
              have d4 : x ≤ 57 := by omega
              have d5 : (x == 45) = false := by simp; omega
              by_cases hp0 : pos = 0
              · have e0 : ((pos : Int) == 0) = true := by simp [hp0]
                clear hp0 hx
                go_wp2_with fail
                go_ret
                exact ⟨by rw [HE.out]; rfl, HB2.out⟩
              · have e0 : ((pos : Int) == 0) = false := by simp; omega
                clear hp0 hx
                go_wp2_with fail
                go_ret
                exact ⟨by rw [HE.out]; rfl, HB2.out⟩
            · by_cases hp0 : pos = 0
              · have HE := Lib.hid (HNO.out (fun h => by unfold Okn at h; omega))
                have e0 : ((pos : Int) == 0) = true := by simp [hp0]
                have d1 : decide (97 ≤ x) = false := decide_eq_false (by omega)
                have d2 : x ≤ 122 := by omega
                have d3 : decide (48 ≤ x) = false := decide_eq_false (by omega)
                have d4 : x ≤ 57 := by omega
                have d5 : (x == 45) = true := by simp; omega
                clear hp0 hx
                go_wp2_with fail
                go_ret
                exact ⟨by rw [HE.out]; rfl, HB2.out⟩
              · have HD2 := Lib.hid (HNX.out (.inr ⟨hp0, .inr hx⟩))
                have e0 : ((pos : Int) == 0) = false := by simp; omega
                have d1 : decide (97 ≤ x) = false := decide_eq_false (by omega)
                have d2 : x ≤ 122 := by omega
                have d3 : decide (48 ≤ x) = false := decide_eq_false (by omega)
                have d4 : x ≤ 57 := by omega
                have d5 : (x == 45) = true := by simp; omega
                clear hp0 hx
                go_wp2_with fail
                go_roundw
                case rel => exact ⟨pos + 1, by omega, HD2.out, hit2, HB2⟩
                case measure =>
                  simp only [World.iterPos, hit2, hit]
                  omega
            · have HE := Lib.hid (HNO.out (fun h => by unfold Okn at h; omega))
              have d1 : decide (97 ≤ x) = false := decide_eq_false (by omega)
              have d2 : x ≤ 122 := by omega
              have d3 : decide (48 ≤ x) = false := decide_eq_false (by omega)
              have d4 : x ≤ 57 := by omega
              have d5 : (x == 45) = false := by simp; omega
              by_cases hp0 : pos = 0
              · have e0 : ((pos : Int) == 0) = true := by simp [hp0]
                clear hp0 hx
                go_wp2_with fail
                go_ret
                exact ⟨by rw [HE.out]; rfl, HB2.out⟩
              · have e0 : ((pos : Int) == 0) = false := by simp; omega
                clear hp0 hx
                go_wp2_with fail
                go_ret
                exact ⟨by rw [HE.out]; rfl, HB2.out⟩
            · by_cases hp0 : pos = 0
              · have HE := Lib.hid (HNO.out (fun h => by unfold Okn at h; omega))
                have e0 : ((pos : Int) == 0) = true := by simp [hp0]
                have d1 : decide (97 ≤ x) = false := decide_eq_false (by omega)
                have d2 : x ≤ 122 := by omega
                have d3 : 48 ≤ x := by omega
                have d4 : x ≤ 57 := by omega
                have d5 : (x == 45) = false := by simp; omega
                clear hp0 hx
                go_wp2_with fail
                go_ret
                exact ⟨by rw [HE.out]; rfl, HB2.out⟩
              · have HD2 := Lib.hid (HNX.out (.inr ⟨hp0, .inl hx⟩))
                have e0 : ((pos : Int) == 0) = false := by simp; omega
                have d1 : decide (97 ≤ x) = false := decide_eq_false (by omega)
                have d2 : x ≤ 122 := by omega
                have d3 : 48 ≤ x := by omega
                have d4 : x ≤ 57 := by omega
                have d5 : (x == 45) = false := by simp; omega
                clear hp0 hx
                go_wp2_with fail
                go_roundw
                case rel => exact ⟨pos + 1, by omega, HD2.out, hit2, HB2⟩
                case measure =>
                  simp only [World.iterPos, hit2, hit]
                  omega
            · have HE := Lib.hid (HNO.out (fun h => by unfold Okn at h; omega))
              have d1 : decide (97 ≤ x) = false := decide_eq_false (by omega)
              have d2 : x ≤ 122 := by omega
              have d3 : 48 ≤ x := by omega
              have d4 : decide (x ≤ 57) = false := decide_eq_false (by omega)
              have d5 : (x == 45) = false := by simp; omega
              by_cases hp0 : pos = 0
              · have e0 : ((pos : Int) == 0) = true := by simp [hp0]
                clear hp0 hx
                go_wp2_with fail
                go_ret
                exact ⟨by rw [HE.out]; rfl, HB2.out⟩
              · have e0 : ((pos : Int) == 0) = false := by simp; omega
                clear hp0 hx
                go_wp2_with fail
                go_ret
                exact ⟨by rw [HE.out]; rfl, HB2.out⟩
            · have HD2 := Lib.hid (HNX.out (.inl hx))
              have d1 : 97 ≤ x := by omega
              have d2 : x ≤ 122 := by omega
              have d3 : 48 ≤ x := by omega
              have d4 : decide (x ≤ 57) = false := decide_eq_false (by omega)
              have d5 : (x == 45) = false := by simp; omega
              go_wp2_with fail
              go_roundw
              case rel => exact ⟨pos + 1, by omega, HD2.out, hit2, HB2⟩
              case measure =>
                simp only [World.iterPos, hit2, hit]
                omega
            · have HE := Lib.hid (HNO.out (fun h => by unfold Okn at h; omega))
              have d1 : 97 ≤ x := by omega
              have d2 : decide (x ≤ 122) = false := decide_eq_false (by omega)
              have d3 : 48 ≤ x := by omega
              have d4 : decide (x ≤ 57) = false := decide_eq_false (by omega)
              have d5 : (x == 45) = false := by simp; omega
              by_cases hp0 : pos = 0
              · have e0 : ((pos : Int) == 0) = true := by simp [hp0]
                clear hp0 hx
                go_wp2_with fail
                go_ret
                exact ⟨by rw [HE.out]; rfl, HB2.out⟩
              · have e0 : ((pos : Int) == 0) = false := by simp; omega
                clear hp0 hx
                go_wp2_with fail
                go_ret
                exact ⟨by rw [HE.out]; rfl, HB2.out⟩
          · obtain ⟨x, p, hc1, hc2, hp1, hp2, hp3, hnx⟩ := next_high (P := Tryd.prog) wr w.heap.size s pos hit hlt2.out (by omega)
            have HE := Lib.hid (HNO.out (fun h => by unfold Okn at h; omega))
            have HB2 := Lib.hid (Lib.below_iterAt HB.out (k := w.heap.size) (Nat.le_refl _) s p)
            have d1 : 97 ≤ x := by omega
            have d2 : decide (x ≤ 122) = false := decide_eq_false (by omega)
            have d3 : 48 ≤ x := by omega
            have d4 : decide (x ≤ 57) = false := decide_eq_false (by omega)
            have d5 : (x == 45) = false := by simp; omega
            clear h128 hp3
            by_cases hp0 : pos = 0
            · have e0 : ((pos : Int) == 0) = true := by simp [hp0]
              clear hp0
              go_wp2_with fail
              go_ret
              exact ⟨by rw [HE.out]; rfl, HB2.out⟩
            · have e0 : ((pos : Int) == 0) = false := by simp; omega
              clear hp0
              go_wp2_with fail
              go_ret
              exact ⟨by rw [HE.out]; rfl, HB2.out⟩
        · have hnx : ∀ ty, (Instr.next (.pointer (some ⟨w.heap.size, 0, none⟩)) true ty).run Tryd.prog wr = _ := fun ty => Lib.run_next_end_at wr w.heap.size s pos ty hit (by rw [HN.out]; exact hlt)
          have hp : pos = n := by omega
          have HE := Lib.hid (nmB_yes (s := s) ⟨by rw [HN.out]; omega, by rw [HN.out]; omega, fun i hi => HD.out i (by rw [HN.out] at hi; omega)⟩)
          go_wp2_with fail
          go_ret
          exact ⟨by rw [HE.out]; rfl, HB.out⟩
set_option maxHeartbeats 4000000 in
set_option maxRecDepth 100000 in
theorem name15 (s : ByteArray) (w : World) : Calls Tryd.prog 15 #[.string s] w fun e w' => e = .returned (.bool (nmB s)) ∧ Below w.heap.size w w' := by
  obtain ⟨n, hn⟩ : ∃ n, s.size = n := ⟨_, rfl⟩
  have HN := Lib.hid hn
  have hsz : ((s.size : Nat) : Int) = (n : Int) := by omega
  by_cases h0 : n < 1
  · have q0 : (n : Int) < 1 := by omega
    have HE := Lib.hid (nmB_no (s := s) (fun h => by have := h.1; omega))
    clear hn
    go_enter Tryd.func15, Tryd.ntmps15
    go_wp2_with fail
    go_ret
    exact ⟨by rw [HE.out]; rfl, Below.refl _ _⟩
  · have q0 : decide ((n : Int) < 1) = false := decide_eq_false (by omega)
    by_cases h12 : 12 < n
    · have q1 : (12 : Int) < (n : Int) := by omega
      have HE := Lib.hid (nmB_no (s := s) (fun h => by have := h.2.1; omega))
      clear hn
      go_enter Tryd.func15, Tryd.ntmps15
      go_wp2_with fail
      go_ret
      exact ⟨by rw [HE.out]; rfl, Below.refl _ _⟩
    · have q1 : decide ((12 : Int) < (n : Int)) = false := decide_eq_false (by omega)
      clear hn
      go_enter Tryd.func15, Tryd.ntmps15
      go_wp2_with fail
      clear q0 q1
      go_loopw [3] (fun iv wr => ∃ pos : Nat, pos ≤ n ∧ iv = .int .i64 pos ∧ (∀ i, i < pos → Okn i (bt s i)) ∧ Hid (Below w.heap.size w wr)) (fun iv _ => n - (intOf iv).toNat)
      case atStart => exact ⟨0, Nat.zero_le _, rfl, fun i hi => by omega, Lib.hid (Below.refl _ _)⟩
      case round =>
        obtain ⟨pos, hpos, rfl, hD, HB⟩ := hrel
        have HD := Lib.hid hD
        clear hD
        by_cases hlt : pos < n
        · have hltI : (pos : Int) < (n : Int) := by omega
          have hks : pos < s.size := by rw [HN.out]; exact hlt
          have hbt := bt_at hks
          have hp00 : (0 : Int) ≤ (pos : Int) := by omega
          have HNX : Hid (Okn pos (bt s pos) → ∀ i, i < pos + 1 → Okn i (bt s i)) := Lib.hid (fun h i hi => by
            rcases Nat.lt_or_ge i pos with h1 | h1
            · exact HD.out i h1
            · obtain rfl : i = pos := by omega
              exact h)
          have HNO : Hid (¬ Okn pos (bt s pos) → nmB s = false) := Lib.hid (fun h => nmB_no (fun h2 => h (h2.2.2 pos hks)))
          obtain ⟨x, hx⟩ : ∃ x, bt s pos = x := ⟨_, rfl⟩
          rw [hx] at hbt HNX HNO
          clear hx
          rcases seven x with hx | hx | hx | hx | hx | hx | hx
          · have HE := Lib.hid (HNO.out (fun h => by unfold Okn at h; omega))
            have d1 : decide (97 ≤ x) = false := decide_eq_false (by omega)
            have d2 : x ≤ 122 := by omega
            have d3 : decide (48 ≤ x) = false := decide_eq_false (by omega)
            have d4 : x ≤ 57 := by omega
            have d5 : (x == 45) = false := by simp; omega
            by_cases hp0 : pos = 0
            · have e0 : ((pos : Int) == 0) = true := by simp [hp0]
              clear hp0 hx
              go_wp2_with fail
              go_ret
              exact ⟨by rw [HE.out]; rfl, HB.out⟩
            · have e0 : ((pos : Int) == 0) = false := by simp; omega
              clear hp0 hx
              go_wp2_with fail
              go_ret
              exact ⟨by rw [HE.out]; rfl, HB.out⟩
          · by_cases hp0 : pos = 0
            · have HE := Lib.hid (HNO.out (fun h => by unfold Okn at h; omega))
              have e0 : ((pos : Int) == 0) = true := by simp [hp0]
              have d1 : decide (97 ≤ x) = false := decide_eq_false (by omega)
              have d2 : x ≤ 122 := by omega
              have d3 : decide (48 ≤ x) = false := decide_eq_false (by omega)
              have d4 : x ≤ 57 := by omega
              have d5 : (x == 45) = true := by simp; omega
              clear hp0 hx
              go_wp2_with fail
              go_ret
              exact ⟨by rw [HE.out]; rfl, HB.out⟩
            · have HD2 := Lib.hid (HNX.out (.inr ⟨hp0, .inr hx⟩))
              have e0 : ((pos : Int) == 0) = false := by simp; omega
              have d1 : decide (97 ≤ x) = false := decide_eq_false (by omega)
              have d2 : x ≤ 122 := by omega
              have d3 : decide (48 ≤ x) = false := decide_eq_false (by omega)
              have d4 : x ≤ 57 := by omega
              have d5 : (x == 45) = true := by simp; omega
              clear hp0 hx
              go_wp2_with fail
              go_roundw
              case rel => exact ⟨pos + 1, by omega, by go_num, HD2.out, HB⟩
              case measure => simp [intOf]; omega
          · have HE := Lib.hid (HNO.out (fun h => by unfold Okn at h; omega))
            have d1 : decide (97 ≤ x) = false := decide_eq_false (by omega)
            have d2 : x ≤ 122 := by omega
            have d3 : decide (48 ≤ x) = false := decide_eq_false (by omega)
            have d4 : x ≤ 57 := by omega
            have d5 : (x == 45) = false := by simp; omega
            by_cases hp0 : pos = 0
            · have e0 : ((pos : Int) == 0) = true := by simp [hp0]
              clear hp0 hx
              go_wp2_with fail
              go_ret
              exact ⟨by rw [HE.out]; rfl, HB.out⟩
            · have e0 : ((pos : Int) == 0) = false := by simp; omega
              clear hp0 hx
              go_wp2_with fail
              go_ret
              exact ⟨by rw [HE.out]; rfl, HB.out⟩
          · by_cases hp0 : pos = 0
            · have HE := Lib.hid (HNO.out (fun h => by unfold Okn at h; omega))
              have e0 : ((pos : Int) == 0) = true := by simp [hp0]
              have d1 : decide (97 ≤ x) = false := decide_eq_false (by omega)
              have d2 : x ≤ 122 := by omega
              have d3 : 48 ≤ x := by omega
              have d4 : x ≤ 57 := by omega
              have d5 : (x == 45) = false := by simp; omega
              clear hp0 hx
              go_wp2_with fail
              go_ret
              exact ⟨by rw [HE.out]; rfl, HB.out⟩
            · have HD2 := Lib.hid (HNX.out (.inr ⟨hp0, .inl hx⟩))
              have e0 : ((pos : Int) == 0) = false := by simp; omega
              have d1 : decide (97 ≤ x) = false := decide_eq_false (by omega)
              have d2 : x ≤ 122 := by omega
              have d3 : 48 ≤ x := by omega
              have d4 : x ≤ 57 := by omega
              have d5 : (x == 45) = false := by simp; omega
              clear hp0 hx
              go_wp2_with fail
              go_roundw
              case rel => exact ⟨pos + 1, by omega, by go_num, HD2.out, HB⟩
              case measure => simp [intOf]; omega
          · have HE := Lib.hid (HNO.out (fun h => by unfold Okn at h; omega))
            have d1 : decide (97 ≤ x) = false := decide_eq_false (by omega)
            have d2 : x ≤ 122 := by omega
            have d3 : 48 ≤ x := by omega
            have d4 : decide (x ≤ 57) = false := decide_eq_false (by omega)
            have d5 : (x == 45) = false := by simp; omega
            by_cases hp0 : pos = 0
            · have e0 : ((pos : Int) == 0) = true := by simp [hp0]
              clear hp0 hx
              go_wp2_with fail
              go_ret
              exact ⟨by rw [HE.out]; rfl, HB.out⟩
            · have e0 : ((pos : Int) == 0) = false := by simp; omega
              clear hp0 hx
              go_wp2_with fail
              go_ret
              exact ⟨by rw [HE.out]; rfl, HB.out⟩
          · have HD2 := Lib.hid (HNX.out (.inl hx))
            have d1 : 97 ≤ x := by omega
            have d2 : x ≤ 122 := by omega
            have d3 : 48 ≤ x := by omega
            have d4 : decide (x ≤ 57) = false := decide_eq_false (by omega)
            have d5 : (x == 45) = false := by simp; omega
            go_wp2_with fail
            go_roundw
            case rel => exact ⟨pos + 1, by omega, by go_num, HD2.out, HB⟩
            case measure => simp [intOf]; omega
          · have HE := Lib.hid (HNO.out (fun h => by unfold Okn at h; omega))
            have d1 : 97 ≤ x := by omega
            have d2 : decide (x ≤ 122) = false := decide_eq_false (by omega)
            have d3 : 48 ≤ x := by omega
            have d4 : decide (x ≤ 57) = false := decide_eq_false (by omega)
            have d5 : (x == 45) = false := by simp; omega
            by_cases hp0 : pos = 0
            · have e0 : ((pos : Int) == 0) = true := by simp [hp0]
              clear hp0 hx
              go_wp2_with fail
              go_ret
              exact ⟨by rw [HE.out]; rfl, HB.out⟩
            · have e0 : ((pos : Int) == 0) = false := by simp; omega
              clear hp0 hx
              go_wp2_with fail
              go_ret
              exact ⟨by rw [HE.out]; rfl, HB.out⟩
        · have hltI : ¬ (pos : Int) < (n : Int) := by omega
          have HE := Lib.hid (nmB_yes (s := s) ⟨by rw [HN.out]; omega, by rw [HN.out]; omega, fun i hi => HD.out i (by rw [HN.out] at hi; omega)⟩)
          go_wp2_with fail
          go_ret
          exact ⟨by rw [HE.out]; rfl, HB.out⟩
end Go.Proofs.YtcgcccieccicnaaDoor.Wk
