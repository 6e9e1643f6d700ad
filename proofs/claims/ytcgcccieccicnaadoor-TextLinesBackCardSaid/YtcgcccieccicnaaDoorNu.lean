/- Number in the layer. Condition: at most 100000 bytes. -/
import Derived.Test.YtcgcccieccicnaaDoorIs
set_option linter.unusedSimpArgs false
set_option linter.unusedVariables false
namespace Go.Proofs.YtcgcccieccicnaaDoor.Wk
open Go.RowKit
open Go.Proofs.YtcgcccieccicnaaDoor.Mt
set_option maxHeartbeats 4000000 in
set_option maxRecDepth 100000 in
theorem number19 (s : ByteArray) (w : World) (hle : s.size ≤ 100000) : Calls Tryd.prog 19 #[.string s] w fun e w' => e = .returned (.tuple #[.int .i64 (nbV s), .int .i64 (nbE s)]) ∧ Below w.heap.size w w' := by
  go_enter Tryd.func19, Tryd.ntmps19
  go_wp2_with fail
  go_at_call 31
  refine (isNumber31 s w).mono ?_
  rintro e w1 ⟨rfl, q1⟩
  have Q1 := Lib.hid q1
  clear q1
  by_cases hnb : Nb s
  · rw [nuB_yes hnb]
    have HNB := Lib.hid hnb
    have k0 : 0 < s.size := by have := hnb.1; omega
    obtain ⟨x0, hx0⟩ : ∃ x, bt s 0 = x := ⟨_, rfl⟩
    have g0 := (bt_at k0).trans hx0
    clear hnb
    by_cases e0 : x0 = 45
    · subst e0
      have HA : Hid (sg s = 1) := Lib.hid (by unfold sg; rw [if_pos ⟨k0, hx0⟩])
      obtain ⟨t, ht⟩ : ∃ t, s.extract 1 s.size = t := ⟨_, rfl⟩
      have HT : Hid (∀ i, bt t i = bt s (1 + i)) := Lib.hid (fun i => by rw [← ht]; exact bt_ext)
      obtain ⟨m, hm⟩ : ∃ m, t.size = m := ⟨_, rfl⟩
      have HM := Lib.hid hm
      have HMS : Hid (1 + m = s.size) := Lib.hid (by rw [← ht, ByteArray.size_extract] at hm; omega)
      have c1 : (1 : Int) ≤ ((s.size : Nat) : Int) := by omega
      clear hx0 hm
      go_wp2_with fail
      clear g0 ht c1
      go_loopw [6, 8] (fun vv _ wr => ∃ pos v : Nat, pos ≤ m ∧ v ≤ 2147483648 ∧ vv = .int .i64 v ∧ Hid (v = nv s 1 (1 + pos)) ∧ wr.heap[w1.heap.size]? = some (.stringIter t pos) ∧ Hid (Below w.heap.size w wr)) (fun _ _ wr => m - wr.iterPos w1.heap.size)
      case atStart => exact ⟨0, 0, Nat.zero_le _, by omega, rfl, Lib.hid (nv_lo _ (Nat.le_refl _)).symm, World.iter_heap w1 t 0, Lib.hid (upB Q1.out (b1 _ _))⟩
      case round =>
        obtain ⟨pos, v, hpos, hv, rfl, HV, hit, HB⟩ := hrel
        have hgl : w1.heap.size < wr.heap.size := (Array.getElem?_eq_some_iff.1 hit).1
        have hww := Q1.out.size
        by_cases hlt : pos < m
        · have hlt2 : Hid (pos < t.size) := Lib.hid (by rw [HM.out]; exact hlt)
          have hx0 := HNB.out.2.2 (1 + pos) (by rw [HA.out]; omega) (by have := HMS.out; omega)
          rw [← HT.out] at hx0
          have h128 : bt t pos < 128 := by omega
          have hnx : ∀ ty, (Instr.next (.pointer (some ⟨w1.heap.size, 0, none⟩)) true ty).run Tryd.prog wr = _ := fun ty => next_ascii wr w1.heap.size t pos hit hlt2.out h128 ty
          have hit2 := Lib.iterAt_heap wr w1.heap.size t pos (pos + 1) hit
          have HB2 := Lib.hid (Lib.below_iterAt HB.out (k := w1.heap.size) hww t (pos + 1))
          have HNX : Hid (nv s 1 (1 + (pos + 1)) = nv s 1 (1 + pos) * 10 + (bt t pos - 48).toNat) := Lib.hid (by rw [← Nat.add_assoc, nv_next (by omega), HT.out])
          have HMO : Hid (nv s 1 (1 + (pos + 1)) ≤ nv s 1 s.size) := Lib.hid (nv_mono (by omega) (by have := HMS.out; omega))
          obtain ⟨x, hx⟩ : ∃ x, bt t pos = x := ⟨_, rfl⟩
          rw [hx] at hnx HNX hx0
          clear hx h128
          obtain ⟨y, hy⟩ : ∃ y : Nat, x - 48 = (y : Int) := ⟨(x - 48).toNat, by omega⟩
          have W1 : IntKind.i64.wrap (10 * (v : Int)) = 10 * (v : Int) := IntWalk.i64_in _ (by omega)
          have W2 : IntKind.i32.wrap (x - 48) = (y : Int) := by rw [hy]; exact IntWalk.i32_in _ (by omega)
          have W3 : IntKind.i64.wrap (y : Int) = (y : Int) := IntWalk.i64_in _ (by omega)
          obtain ⟨z, hz⟩ : ∃ z, v * 10 + y = z := ⟨_, rfl⟩
          have W4 : IntKind.i64.wrap (10 * (v : Int) + (y : Int)) = (z : Int) := by rw [IntWalk.i64_in _ (by omega)]; omega
          have HZ : Hid (z = nv s 1 (1 + (pos + 1))) := Lib.hid (by rw [HNX.out, ← HV.out]; omega)
          clear hy hz hx0
          by_cases hc : 2147483648 < z
          · have hcI : (2147483648 : Int) < (z : Int) := by omega
            have HE := Lib.hid (nb_big HNB.out (by rw [HA.out]; have h1 := HMO.out; rw [← HZ.out] at h1; omega))
            go_wp2_with fail
            go_ret2
            exact ⟨by rw [HE.out.1, HE.out.2]; rfl, HB2.out⟩
          · have hcI : ¬ (2147483648 : Int) < (z : Int) := by omega
            go_wp2_with fail
            go_roundw
            case rel => exact ⟨pos + 1, z, by omega, by omega, rfl, HZ, hit2, HB2⟩
            case measure =>
              simp only [World.iterPos, hit2, hit]
              omega
        · have hnx : ∀ ty, (Instr.next (.pointer (some ⟨w1.heap.size, 0, none⟩)) true ty).run Tryd.prog wr = _ := fun ty => Lib.run_next_end_at wr w1.heap.size t pos ty hit (by rw [HM.out]; exact hlt)
          have HE : Hid (nbV s = -(v : Int) ∧ nbE s = 0) := Lib.hid (by
            have h1 := HV.out
            rw [show 1 + pos = s.size by have := HMS.out; omega] at h1
            have h := nb_neg HNB.out (by rw [HA.out, ← h1]; omega) HA.out
            rw [HA.out, ← h1] at h
            exact h)
          have W5 : IntKind.i64.wrap (-1 * (v : Int)) = -(v : Int) := by rw [IntWalk.i64_in _ (by omega)]; omega
          go_wp2_with fail
          go_ret2
          exact ⟨by rw [HE.out.1, HE.out.2]; first | rfl | (simp; done), HB.out⟩

    · have q5 : (x0 == 45) = false := by simp [e0]
      have HA : Hid (sg s = 0) := Lib.hid (by unfold sg; rw [if_neg (fun h => e0 (hx0.symm.trans h.2))])
      clear hx0
      obtain ⟨t, ht⟩ : ∃ t, t = s := ⟨_, rfl⟩
      have HT : Hid (∀ i, bt t i = bt s (0 + i)) := Lib.hid (fun i => by rw [ht, Nat.zero_add])
      obtain ⟨m, hm⟩ : ∃ m, t.size = m := ⟨_, rfl⟩
      have HM := Lib.hid hm
      have HMS : Hid (0 + m = s.size) := Lib.hid (by rw [← hm, ht]; omega)
      clear hm
      subst ht
      go_wp2_with fail
      clear g0 e0 q5
      go_loopw [6, 8] (fun vv _ wr => ∃ pos v : Nat, pos ≤ m ∧ v ≤ 2147483648 ∧ vv = .int .i64 v ∧ Hid (v = nv t 0 (0 + pos)) ∧ wr.heap[w1.heap.size]? = some (.stringIter t pos) ∧ Hid (Below w.heap.size w wr)) (fun _ _ wr => m - wr.iterPos w1.heap.size)
      case atStart => exact ⟨0, 0, Nat.zero_le _, by omega, rfl, Lib.hid (nv_lo _ (Nat.le_refl _)).symm, World.iter_heap w1 t 0, Lib.hid (upB Q1.out (b1 _ _))⟩
      case round =>
        obtain ⟨pos, v, hpos, hv, rfl, HV, hit, HB⟩ := hrel
        have hgl : w1.heap.size < wr.heap.size := (Array.getElem?_eq_some_iff.1 hit).1
        have hww := Q1.out.size
        by_cases hlt : pos < m
        · have hlt2 : Hid (pos < t.size) := Lib.hid (by rw [HM.out]; exact hlt)
          have hx0 := HNB.out.2.2 (0 + pos) (by rw [HA.out]; omega) (by have := HMS.out; omega)
          rw [← HT.out] at hx0
          have h128 : bt t pos < 128 := by omega
          have hnx : ∀ ty, (Instr.next (.pointer (some ⟨w1.heap.size, 0, none⟩)) true ty).run Tryd.prog wr = _ := fun ty => next_ascii wr w1.heap.size t pos hit hlt2.out h128 ty
          have hit2 := Lib.iterAt_heap wr w1.heap.size t pos (pos + 1) hit
          have HB2 := Lib.hid (Lib.below_iterAt HB.out (k := w1.heap.size) hww t (pos + 1))
          have HNX : Hid (nv t 0 (0 + (pos + 1)) = nv t 0 (0 + pos) * 10 + (bt t pos - 48).toNat) := Lib.hid (by rw [← Nat.add_assoc, nv_next (by omega), Nat.zero_add])
          have HMO : Hid (nv t 0 (0 + (pos + 1)) ≤ nv t 0 t.size) := Lib.hid (nv_mono (by omega) (by have := HMS.out; omega))
          obtain ⟨x, hx⟩ : ∃ x, bt t pos = x := ⟨_, rfl⟩
          rw [hx] at hnx HNX hx0
          clear hx h128
          obtain ⟨y, hy⟩ : ∃ y : Nat, x - 48 = (y : Int) := ⟨(x - 48).toNat, by omega⟩
          have W1 : IntKind.i64.wrap (10 * (v : Int)) = 10 * (v : Int) := IntWalk.i64_in _ (by omega)
          have W2 : IntKind.i32.wrap (x - 48) = (y : Int) := by rw [hy]; exact IntWalk.i32_in _ (by omega)
          have W3 : IntKind.i64.wrap (y : Int) = (y : Int) := IntWalk.i64_in _ (by omega)
          obtain ⟨z, hz⟩ : ∃ z, v * 10 + y = z := ⟨_, rfl⟩
          have W4 : IntKind.i64.wrap (10 * (v : Int) + (y : Int)) = (z : Int) := by rw [IntWalk.i64_in _ (by omega)]; omega
          have HZ : Hid (z = nv t 0 (0 + (pos + 1))) := Lib.hid (by rw [HNX.out, ← HV.out]; omega)
          clear hy hz hx0
          by_cases hc : 2147483648 < z
          · have hcI : (2147483648 : Int) < (z : Int) := by omega
            have HE := Lib.hid (nb_big HNB.out (by rw [HA.out]; have h1 := HMO.out; rw [← HZ.out] at h1; omega))
            go_wp2_with fail
            go_ret2
            exact ⟨by rw [HE.out.1, HE.out.2]; rfl, HB2.out⟩
          · have hcI : ¬ (2147483648 : Int) < (z : Int) := by omega
            go_wp2_with fail
            go_roundw
            case rel => exact ⟨pos + 1, z, by omega, by omega, rfl, HZ, hit2, HB2⟩
            case measure =>
              simp only [World.iterPos, hit2, hit]
              omega
        · have hnx : ∀ ty, (Instr.next (.pointer (some ⟨w1.heap.size, 0, none⟩)) true ty).run Tryd.prog wr = _ := fun ty => Lib.run_next_end_at wr w1.heap.size t pos ty hit (by rw [HM.out]; exact hlt)
          have HE : Hid (nbV t = (v : Int) ∧ nbE t = 0) := Lib.hid (by
            have h1 := HV.out
            rw [show 0 + pos = t.size by have := HMS.out; omega] at h1
            have h := nb_pos HNB.out (by rw [HA.out, ← h1]; omega) HA.out
            rw [HA.out, ← h1] at h
            exact h)
          have W5 : IntKind.i64.wrap (1 * (v : Int)) = (v : Int) := by rw [IntWalk.i64_in _ (by omega)]; omega
          go_wp2_with fail
          go_ret2
          exact ⟨by rw [HE.out.1, HE.out.2]; first | rfl | (simp; done), HB.out⟩

  · rw [nuB_no hnb]
    have HE := Lib.hid (nb_bad (s := s) hnb)
    clear hnb
    go_wp2_with fail
    go_ret2
    exact ⟨by rw [HE.out.1, HE.out.2]; rfl, Q1.out⟩
end Go.Proofs.YtcgcccieccicnaaDoor.Wk
