/- Whether a string is a number's form. Condition: at most 100000 bytes. -/
import Derived.Test.YtcgcccieccicnaaDoorNb
import Derived.Test.YtcgcccieccicnaaDoorLaid
set_option linter.unusedSimpArgs false
set_option linter.unusedVariables false
namespace Go.Proofs.YtcgcccieccicnaaDoor.Mt
open Go
theorem bt_ext {s : ByteArray} {a i : Nat} : bt (s.extract a s.size) i = bt s (a + i) := by
  by_cases h : i < (s.extract a s.size).size
  · have h2 := h
    rw [ByteArray.size_extract] at h2
    rw [← bt_at h, ← bt_at (show a + i < s.size by omega)]
    congr 2
    rw [ByteArray.getElem_extract]
  · have h2 := h
    rw [ByteArray.size_extract] at h2
    unfold bt
    rw [dif_neg h, dif_neg (by omega)]
theorem sg_le (s : ByteArray) : sg s ≤ s.size ∧ sg s ≤ 1 := by unfold sg; split <;> omega
theorem ext_size (s : ByteArray) : (s.extract (sg s) s.size).size = s.size - sg s := by rw [ByteArray.size_extract]; omega
theorem ba_eq {a b : ByteArray} (h : a.data.toList = b.data.toList) : a = b := by
  apply ByteArray.ext
  exact Array.toList_inj.1 h
theorem bt_list (s : ByteArray) (i : Nat) (h : i < s.data.toList.length) : bt s i = ((s.data.toList[i]'h).toNat : Int) := by
  have h2 : i < s.size := by simpa using h
  rw [← bt_at h2]
  rfl
theorem u8_eq {a : UInt8} {n : Nat} (hn : n < 256) (h : (a.toNat : Int) = n) : a = UInt8.ofNat n := by
  apply UInt8.toNat_inj.1
  rw [UInt8.toNat_ofNat']
  omega
theorem trim_is (s : ByteArray) : (⟨(Lib.trimPrefix s.data.toList [45]).toArray⟩ : ByteArray) = s.extract (sg s) s.size := by
  apply ba_eq
  rw [ByteArray.data_extract]
  have hsz : s.size = s.data.toList.length := by simp
  have hb : 0 < s.size → bt s 0 = 45 → ∃ r, s.data.toList = 45 :: r := by
    intro h1 h2
    match hl : s.data.toList with
    | [] =>
      have h9 : s.size = 0 := by rw [hsz, hl]; rfl
      omega
    | a :: r =>
      have h3 := bt_list s 0 (by rw [hl]; simp)
      simp only [hl, List.getElem_cons_zero] at h3
      rw [h2] at h3
      have := u8_eq (n := 45) (by omega) h3.symm
      subst this
      exact ⟨r, rfl⟩
  have hx : (s.data.extract (sg s) s.size).toList = s.data.toList.drop (sg s) := by
    rw [Array.toList_extract, hsz, List.extract_eq_take_drop, List.take_of_length_le (by rw [List.length_drop]; omega)]
  rw [hx]
  unfold Lib.trimPrefix sg
  by_cases h : 0 < s.size ∧ bt s 0 = 45
  · obtain ⟨r, hr⟩ := hb h.1 h.2
    rw [if_pos h, hr]
    simp [Lib.hasPrefix]
  · rw [if_neg h]
    match hl : s.data.toList with
    | [] => simp [Lib.hasPrefix]
    | a :: r =>
      have h3 := bt_list s 0 (by rw [hl]; simp)
      simp only [hl, List.getElem_cons_zero] at h3
      have h4 : a ≠ 45 := by
        intro e
        subst e
        exact h ⟨by rw [hsz, hl]; simp, h3⟩
      simp [Lib.hasPrefix, h4, Ne.symm h4]
theorem zero_is {s : ByteArray} (h1 : s.size = 1) (h2 : bt s 0 = 48) : s = ⟨#[48]⟩ := by
  apply ba_eq
  have hsz : s.size = s.data.toList.length := by simp
  match hl : s.data.toList with
  | [] =>
    have h9 : s.size = 0 := by rw [hsz, hl]; rfl
    omega
  | [a] =>
    have h3 := bt_list s 0 (by rw [hl]; simp)
    simp only [hl, List.getElem_cons_zero] at h3
    rw [h2] at h3
    have := u8_eq (n := 48) (by omega) h3.symm
    subst this
    rfl
  | a :: b :: r =>
    have h9 : s.size = r.length + 2 := by rw [hsz, hl]; rfl
    omega
noncomputable def nuB (s : ByteArray) : Bool := by
  classical exact decide (Nb s)
theorem nuB_yes {s : ByteArray} (h : Nb s) : nuB s = true := by unfold nuB; exact @decide_eq_true _ (Classical.propDecidable _) h
theorem nuB_no {s : ByteArray} (h : ¬ Nb s) : nuB s = false := by unfold nuB; exact @decide_eq_false _ (Classical.propDecidable _) h
theorem emp {t : ByteArray} (h : t.size = 0) : t.toList.isEmpty = true := by
  have he : t = { data := #[] } := by
    apply ByteArray.ext
    exact Array.eq_empty_of_size_eq_zero h
  rw [he, ByteArray.toList_eq]; rfl
theorem not_emp {t : ByteArray} (h : t.size ≠ 0) : t.toList.isEmpty = false := by
  cases h1 : t.toList with
  | nil =>
    have h2 := congrArg List.length h1
    rw [ByteArray.toList_eq, Array.length_toList] at h2
    exact absurd h2 h
  | cons => rfl
end Go.Proofs.YtcgcccieccicnaaDoor.Mt
namespace Go.Proofs.YtcgcccieccicnaaDoor.Wk
open Go.RowKit
open Go.Proofs.YtcgcccieccicnaaDoor.Mt
theorem trim38 (s : ByteArray) (w : World) : Calls Tryd.prog 38 #[.string s, .string ⟨#[45]⟩] w fun e w' => e = .returned (.string (s.extract (sg s) s.size)) ∧ Below w.heap.size w w' := by
  refine (Any.strings_TrimPrefix Tryd.laysTrim s ⟨#[45]⟩ w).mono ?_
  rintro e w' ⟨rfl, rfl⟩
  exact ⟨by rw [← trim_is], Below.refl _ _⟩
set_option maxHeartbeats 4000000 in
set_option maxRecDepth 100000 in
theorem isNumber31 (s : ByteArray) (w : World) : Calls Tryd.prog 31 #[.string s] w fun e w' => e = .returned (.bool (nuB s)) ∧ Below w.heap.size w w' := by
  go_enter Tryd.func31, Tryd.ntmps31
  go_wp2_with fail
  go_at_call 38
  refine (trim38 s w).mono ?_
  rintro e w1 ⟨rfl, q1⟩
  have Q1 := Lib.hid q1
  clear q1
  obtain ⟨t, ht⟩ : ∃ t, s.extract (sg s) s.size = t := ⟨_, rfl⟩
  have HT : Hid (∀ i, bt t i = bt s (sg s + i)) := Lib.hid (fun i => by rw [← ht]; exact bt_ext)
  obtain ⟨m, hm⟩ : ∃ m, t.size = m := ⟨_, rfl⟩
  have HM := Lib.hid hm
  have HMS : Hid (m + sg s = s.size) := Lib.hid (by have := ext_size s; rw [ht, hm] at this; have := sg_le s; omega)
  rw [ht]
  have hsz : ((t.size : Nat) : Int) = (m : Int) := by omega
  clear ht
  by_cases h0 : m = 0
  · have HE := Lib.hid (nuB_no (s := s) (fun h => by have := h.1; have := HMS.out; omega))
    have e0 := emp (show t.size = 0 by omega)
    clear h0 hm
    go_wp2_with fail
    go_ret
    exact ⟨by rw [HE.out]; rfl, Q1.out⟩
  · have e0 := not_emp (show t.size ≠ 0 by omega)
    have k0 : 0 < t.size := by omega
    obtain ⟨x0, hx0⟩ : ∃ x, bt t 0 = x := ⟨_, rfl⟩
    have g0 := (bt_at k0).trans hx0
    have HX : Hid (bt s (sg s) = x0) := Lib.hid (by rw [← hx0, HT.out]; rfl)
    clear hx0 hm
    by_cases e1 : x0 = 48
    · subst e1
      by_cases e2 : s = ⟨#[48]⟩
      · have e3 : (s.toList == [48]) = true := by rw [e2, ByteArray.toList_eq]; rfl
        have HZ : Hid (¬ (bt s (sg s) = 48 ∧ (sg s = 1 ∨ 1 < s.size))) := Lib.hid (fun h => by
          have h1 : s.size = 1 := by rw [e2]; rfl
          have h2 : sg s = 0 := by rw [e2]; decide
          omega)
        clear e2
        go_wp2_with fail
        clear g0 e3 e0 h0
        go_loopw [5] (fun _ wr => ∃ pos : Nat, pos ≤ m ∧ (∀ i, i < pos → 48 ≤ bt t i ∧ bt t i ≤ 57) ∧ wr.heap[w1.heap.size]? = some (.stringIter t pos) ∧ Hid (Below w.heap.size w wr)) (fun _ wr => m - wr.iterPos w1.heap.size)
        case atStart => exact ⟨0, Nat.zero_le _, fun i hi => by omega, World.iter_heap w1 t 0, Lib.hid (upB Q1.out (b1 _ _))⟩
        case round =>
          obtain ⟨pos, hpos, hD, hit, HB⟩ := hrel
          have HD := Lib.hid hD
          clear hD
          have hgl : w1.heap.size < wr.heap.size := (Array.getElem?_eq_some_iff.1 hit).1
          have hww := Q1.out.size
          by_cases hlt : pos < m
          · have hlt2 : Hid (pos < t.size) := Lib.hid (by rw [HM.out]; exact hlt)
            have HNO : Hid (¬ (48 ≤ bt t pos ∧ bt t pos ≤ 57) → nuB s = false) := Lib.hid (fun h => nuB_no (fun h2 => h (by
              have h3 := h2.2.2 (sg s + pos) (by omega) (by have := HMS.out; omega)
              rw [HT.out pos]; exact h3)))
            by_cases h128 : bt t pos < 128
            · have hnx : ∀ ty, (Instr.next (.pointer (some ⟨w1.heap.size, 0, none⟩)) true ty).run Tryd.prog wr = _ := fun ty => next_ascii wr w1.heap.size t pos hit hlt2.out h128 ty
              have hit2 := Lib.iterAt_heap wr w1.heap.size t pos (pos + 1) hit
              have HB2 := Lib.hid (Lib.below_iterAt HB.out (k := w1.heap.size) hww t (pos + 1))
              have HNX : Hid ((48 ≤ bt t pos ∧ bt t pos ≤ 57) → ∀ i, i < pos + 1 → 48 ≤ bt t i ∧ bt t i ≤ 57) := Lib.hid (fun h i hi => by
                rcases Nat.lt_or_ge i pos with h1 | h1
                · exact HD.out i h1
                · obtain rfl : i = pos := by omega
                  exact h)
              obtain ⟨x, hx⟩ : ∃ x, bt t pos = x := ⟨_, rfl⟩
              rw [hx] at hnx HNX HNO
              clear hx h128
              by_cases l1 : x < 48
              · have HE := Lib.hid (HNO.out (by omega))
                go_wp2_with fail
                go_ret
                exact ⟨by rw [HE.out]; rfl, HB2.out⟩
              · by_cases l2 : 57 < x
                · have HE := Lib.hid (HNO.out (by omega))
                  go_wp2_with fail
                  go_ret
                  exact ⟨by rw [HE.out]; rfl, HB2.out⟩
                · have HD2 := Lib.hid (HNX.out (by omega))
                  go_wp2_with fail
                  go_roundw
                  case rel => exact ⟨pos + 1, by omega, HD2.out, hit2, HB2⟩
                  case measure =>
                    simp only [World.iterPos, hit2, hit]
                    omega
            · obtain ⟨x, p, hc1, hc2, hp1, hp2, hp3, hnx⟩ := next_high (P := Tryd.prog) wr w1.heap.size t pos hit hlt2.out (by omega)
              have HE := Lib.hid (HNO.out (by omega))
              have HB2 := Lib.hid (Lib.below_iterAt HB.out (k := w1.heap.size) hww t p)
              have l1 : ¬ x < 48 := by omega
              have l2 : 57 < x := by omega
              clear h128 hp3
              go_wp2_with fail
              go_ret
              exact ⟨by rw [HE.out]; rfl, HB2.out⟩
          · have hnx : ∀ ty, (Instr.next (.pointer (some ⟨w1.heap.size, 0, none⟩)) true ty).run Tryd.prog wr = _ := fun ty => Lib.run_next_end_at wr w1.heap.size t pos ty hit (by rw [HM.out]; exact hlt)
            have hp : pos = m := by omega
            have HE := Lib.hid (nuB_yes (s := s) ⟨by have := HMS.out; omega, HZ.out, fun j h1 h2 => by
              have h3 := HD.out (j - sg s) (by have := HMS.out; omega)
              rw [HT.out] at h3
              rw [show sg s + (j - sg s) = j by omega] at h3
              exact h3⟩)
            go_wp2_with fail
            go_ret
            exact ⟨by rw [HE.out]; rfl, HB.out⟩

      · have e3 : (s.toList == [48]) = false := by
          rw [beq_eq_false_iff_ne, ByteArray.toList_eq]
          intro h
          exact e2 (ba_eq h)
        have HE := Lib.hid (nuB_no (s := s) (fun h => h.2.1 ⟨HX.out, by
          rcases Nat.eq_zero_or_pos (sg s) with h1 | h1
          · right
            rcases Nat.lt_or_ge 1 s.size with h2 | h2
            · exact h2
            · exfalso
              have h3 := HX.out
              have h4 := HMS.out
              rw [h1] at h3
              exact e2 (zero_is (by omega) h3)
          · left
            have := sg_le s
            omega⟩))
        clear e2 h0
        go_wp2_with fail
        go_ret
        exact ⟨by rw [HE.out]; rfl, Q1.out⟩
    · have q2 : (x0 == 48) = false := by simp [e1]
      have HZ : Hid (¬ (bt s (sg s) = 48 ∧ (sg s = 1 ∨ 1 < s.size))) := Lib.hid (fun h => e1 (HX.out.symm.trans h.1))
      go_wp2_with fail
      clear g0 q2 e0 e1 h0
      go_loopw [5] (fun _ wr => ∃ pos : Nat, pos ≤ m ∧ (∀ i, i < pos → 48 ≤ bt t i ∧ bt t i ≤ 57) ∧ wr.heap[w1.heap.size]? = some (.stringIter t pos) ∧ Hid (Below w.heap.size w wr)) (fun _ wr => m - wr.iterPos w1.heap.size)
      case atStart => exact ⟨0, Nat.zero_le _, fun i hi => by omega, World.iter_heap w1 t 0, Lib.hid (upB Q1.out (b1 _ _))⟩
      case round =>
        obtain ⟨pos, hpos, hD, hit, HB⟩ := hrel
        have HD := Lib.hid hD
        clear hD
        have hgl : w1.heap.size < wr.heap.size := (Array.getElem?_eq_some_iff.1 hit).1
        have hww := Q1.out.size
        by_cases hlt : pos < m
        · have hlt2 : Hid (pos < t.size) := Lib.hid (by rw [HM.out]; exact hlt)
          have HNO : Hid (¬ (48 ≤ bt t pos ∧ bt t pos ≤ 57) → nuB s = false) := Lib.hid (fun h => nuB_no (fun h2 => h (by
            have h3 := h2.2.2 (sg s + pos) (by omega) (by have := HMS.out; omega)
            rw [HT.out pos]; exact h3)))
          by_cases h128 : bt t pos < 128
          · have hnx : ∀ ty, (Instr.next (.pointer (some ⟨w1.heap.size, 0, none⟩)) true ty).run Tryd.prog wr = _ := fun ty => next_ascii wr w1.heap.size t pos hit hlt2.out h128 ty
            have hit2 := Lib.iterAt_heap wr w1.heap.size t pos (pos + 1) hit
            have HB2 := Lib.hid (Lib.below_iterAt HB.out (k := w1.heap.size) hww t (pos + 1))
            have HNX : Hid ((48 ≤ bt t pos ∧ bt t pos ≤ 57) → ∀ i, i < pos + 1 → 48 ≤ bt t i ∧ bt t i ≤ 57) := Lib.hid (fun h i hi => by
              rcases Nat.lt_or_ge i pos with h1 | h1
              · exact HD.out i h1
              · obtain rfl : i = pos := by omega
                exact h)
            obtain ⟨x, hx⟩ : ∃ x, bt t pos = x := ⟨_, rfl⟩
            rw [hx] at hnx HNX HNO
            clear hx h128
            by_cases l1 : x < 48
            · have HE := Lib.hid (HNO.out (by omega))
              go_wp2_with fail
              go_ret
              exact ⟨by rw [HE.out]; rfl, HB2.out⟩
            · by_cases l2 : 57 < x
              · have HE := Lib.hid (HNO.out (by omega))
                go_wp2_with fail
                go_ret
                exact ⟨by rw [HE.out]; rfl, HB2.out⟩
              · have HD2 := Lib.hid (HNX.out (by omega))
                go_wp2_with fail
                go_roundw
                case rel => exact ⟨pos + 1, by omega, HD2.out, hit2, HB2⟩
                case measure =>
                  simp only [World.iterPos, hit2, hit]
                  omega
          · obtain ⟨x, p, hc1, hc2, hp1, hp2, hp3, hnx⟩ := next_high (P := Tryd.prog) wr w1.heap.size t pos hit hlt2.out (by omega)
            have HE := Lib.hid (HNO.out (by omega))
            have HB2 := Lib.hid (Lib.below_iterAt HB.out (k := w1.heap.size) hww t p)
            have l1 : ¬ x < 48 := by omega
            have l2 : 57 < x := by omega
            clear h128 hp3
            go_wp2_with fail
            go_ret
            exact ⟨by rw [HE.out]; rfl, HB2.out⟩
        · have hnx : ∀ ty, (Instr.next (.pointer (some ⟨w1.heap.size, 0, none⟩)) true ty).run Tryd.prog wr = _ := fun ty => Lib.run_next_end_at wr w1.heap.size t pos ty hit (by rw [HM.out]; exact hlt)
          have hp : pos = m := by omega
          have HE := Lib.hid (nuB_yes (s := s) ⟨by have := HMS.out; omega, HZ.out, fun j h1 h2 => by
            have h3 := HD.out (j - sg s) (by have := HMS.out; omega)
            rw [HT.out] at h3
            rw [show sg s + (j - sg s) = j by omega] at h3
            exact h3⟩)
          go_wp2_with fail
          go_ret
          exact ⟨by rw [HE.out]; rfl, HB.out⟩

end Go.Proofs.YtcgcccieccicnaaDoor.Wk
