/- The weight of a digit, the check of a transponder number, in the layer and in its reference. No condition. -/
import Derived.Test.YtgghnamjjgmimaaDoorBase
import Derived.Handy
import Derived.StillTailTactics
set_option linter.unusedSimpArgs false
set_option linter.unusedVariables false
namespace Go.Proofs.YtgghnamjjgmimaaDoor.Wk
open Go.RowKit
open Go.Proofs.YtgghnamjjgmimaaDoor.Mt
theorem tm2 {i : Nat} : Int.tmod (i : Int) 2 = ((i % 2 : Nat) : Int) := by rw [Int.tmod_eq_emod_of_nonneg (by omega)]; omega
theorem weigh25 (i : Nat) (d : Int) (w : World) (hi : i ≤ 4096) (hd : 0 ≤ d ∧ d ≤ 9) : Calls Tryd.prog 25 #[.int .i64 i, .int .i64 d] w fun e w' => e = .returned (.int .i64 (lu i d)) ∧ Below w.heap.size w w' := by
  obtain ⟨r, hr⟩ : ∃ r : Int, Int.tmod (i : Int) 2 = r := ⟨_, rfl⟩
  have hr2 := tm2 (i := i)
  have W0 : IntKind.i64.wrap r = r := IntWalk.i64_in _ (by omega)
  have W1 : IntKind.i64.wrap (2 * d) = 2 * d := IntWalk.i64_in _ (by omega)
  have W2 : IntKind.i64.wrap (2 * d - 9) = 2 * d - 9 := IntWalk.i64_in _ (by omega)
  by_cases h1 : i % 2 = 1
  · have HE := Lib.hid (show lu i d = d by unfold lu; rw [if_pos h1])
    have e1 : (r == 1) = true := by simp; omega
    clear hr2 h1
    go_enter Tryd.func25, Tryd.ntmps25
    go_wp2_with fail
    go_ret
    exact ⟨by rw [HE.out]; rfl, Below.refl _ _⟩
  · have e1 : (r == 1) = false := by simp; omega
    by_cases h4 : 4 < d
    · have HE := Lib.hid (show lu i d = 2 * d - 9 by unfold lu; rw [if_neg h1, if_pos h4])
      clear hr2 h1
      go_enter Tryd.func25, Tryd.ntmps25
      go_wp2_with fail
      go_ret
      exact ⟨by first | (rw [HE.out]; done) | (rw [HE.out]; rfl), Below.refl _ _⟩
    · have HE := Lib.hid (show lu i d = 2 * d by unfold lu; rw [if_neg h1, if_neg h4])
      have h4' : decide (4 < d) = false := decide_eq_false h4
      clear hr2 h1
      go_enter Tryd.func25, Tryd.ntmps25
      go_wp2_with fail
      go_ret
      exact ⟨by first | (rw [HE.out]; done) | (rw [HE.out]; rfl), Below.refl _ _⟩
theorem iter_at0 (w : World) (s : ByteArray) : (w.iter s 0).heap[w.heap.size]? = some (.stringIter s 0) := World.iter_heap w s 0
set_option maxHeartbeats 2000000 in
set_option maxRecDepth 100000 in
theorem check15 (s : ByteArray) (w : World) : Calls Tryd.prog 15 #[.string s] w fun e w' => e = .returned (.int .i64 (ck s)) ∧ Below w.heap.size w w' := by
  by_cases h12 : s.size = 12
  · have e12 : (((s.size : Nat) : Int) != 12) = false := by rw [h12]; rfl
    have HS := Lib.hid h12
    clear h12
    go_enter Tryd.func15, Tryd.ntmps15
    go_wp2_with fail
    clear e12
    go_loopw [3] (fun sv wr => ∃ pos : Nat, pos ≤ 12 ∧ sv = .int .i64 (sm s pos) ∧ Hid (Dgs s pos) ∧ wr.heap[w.heap.size]? = some (.stringIter s pos) ∧ Hid (Below w.heap.size w wr)) (fun _ wr => 12 - wr.iterPos w.heap.size)
    case atStart => exact ⟨0, by omega, rfl, Lib.hid (fun i hi => by omega), World.iter_heap w s 0, Lib.hid (b1 _ _)⟩
    case round =>
      obtain ⟨pos, hpos, rfl, HD, hit, HB⟩ := hrel
      have hsz : w.heap.size < wr.heap.size := (Array.getElem?_eq_some_iff.1 hit).1
      have hin := sm_in HD.out
      by_cases hlt : pos < 12
      · have hlt2 : Hid (pos < s.size) := Lib.hid (by rw [HS.out]; exact hlt)
        by_cases hd : Dg (bt s pos)
        · have hnx : ∀ ty, (Instr.next (.pointer (some ⟨w.heap.size, 0, none⟩)) true ty).run Tryd.prog wr = _ := fun ty => next_digit wr w.heap.size s pos hit hlt2.out hd ty
          have HD2 := Lib.hid (HD.out.next hd)
          have HE : Hid (sm s (pos + 1) = sm s pos + lu pos (bt s pos - 48)) := Lib.hid rfl
          have hl := lu_in (i := pos) (d := bt s pos - 48) (by unfold Dg at hd; omega)
          have hit2 := Lib.iterAt_heap wr w.heap.size s pos (pos + 1) hit
          have HB2 := Lib.hid (Lib.below_iterAt HB.out (k := w.heap.size) (Nat.le_refl _) s (pos + 1))
          obtain ⟨x, hx⟩ : ∃ x, bt s pos = x := ⟨_, rfl⟩
          obtain ⟨f, hf⟩ : ∃ f, sm s pos = f := ⟨_, rfl⟩
          rw [hx] at hd hnx HE hl
          rw [hf] at hin HE ⊢
          unfold Dg at hd
          obtain ⟨d, hdd⟩ : ∃ d, x - 48 = d := ⟨_, rfl⟩
          rw [hdd] at HE hl
          have W1 : IntKind.i32.wrap (x - 48) = d := by rw [hdd]; exact IntWalk.i32_in _ (by omega)
          have W2 : IntKind.i64.wrap d = d := IntWalk.i64_in _ (by omega)
          have W3 : IntKind.i64.wrap (f + lu pos d) = f + lu pos d := IntWalk.i64_in _ (by omega)
          have q1 : decide (x < 48) = false := decide_eq_false (by omega)
          have q2 : decide (57 < x) = false := decide_eq_false (by omega)
          have hdr : 0 ≤ d ∧ d ≤ 9 := by omega
          clear hx hf hdd hin hl hd
          go_wp2_with fail
          refine (weigh25 pos d _ (by omega) hdr).mono ?_
          rintro e w3 ⟨rfl, hb⟩
          have hit3 := (hb.block w.heap.size (by rw [Lib.iterAt_size]; exact hsz)).trans hit2
          replace HB2 := Lib.hid (HB2.out.trans (hb.mono (by rw [Lib.iterAt_size]; omega)))
          clear hb hnx hit2
          go_wp2_with fail
          go_roundw
          case rel => exact ⟨pos + 1, by omega, by rw [HE.out], HD2, hit3, HB2⟩
          case measure =>
            simp only [World.iterPos, hit3, hit]
            omega
        · obtain ⟨c, p', hc1, hc2, hc3, hnx⟩ := next_other (P := Tryd.prog) wr w.heap.size s pos hit hlt2.out hd
          have HE := Lib.hid (ck_no (s := s) (fun h => hd (h.2.1 pos hlt)))
          have HB2 := Lib.hid (Lib.below_iterAt HB.out (k := w.heap.size) (Nat.le_refl _) s p')
          clear hd
          by_cases q : c < 48
          · go_wp2_with fail
            go_ret
            exact ⟨by rw [HE.out]; rfl, HB2.out⟩
          · have q1 : decide (c < 48) = false := decide_eq_false q
            have q2 : 57 < c := by unfold Dg at hc1; omega
            go_wp2_with fail
            go_ret
            exact ⟨by rw [HE.out]; rfl, HB2.out⟩
      · have hnx : ∀ ty, (Instr.next (.pointer (some ⟨w.heap.size, 0, none⟩)) true ty).run Tryd.prog wr = _ := fun ty => Lib.run_next_end_at wr w.heap.size s pos ty hit (by rw [HS.out]; exact hlt)
        have hp : pos = 12 := by omega
        subst hp
        obtain ⟨f, hf⟩ : ∃ f, sm s 12 = f := ⟨_, rfl⟩
        have HFF := Lib.hid hf
        rw [hf] at hin ⊢
        clear hf
        obtain ⟨r, hr⟩ : ∃ r, Int.tmod f 10 = r := ⟨_, rfl⟩
        have hr2 := mod10 hin.1
        rw [hr] at hr2
        have W1 : IntKind.i64.wrap r = r := IntWalk.i64_in _ (by omega)
        by_cases h0 : r = 0
        · have e1 : (r != 0) = false := by simp [h0]
          have HE := Lib.hid (ck_yes (s := s) ⟨HS.out, HD.out, by rw [HFF.out, ← hr2]; exact h0⟩)
          clear h0 hr2
          go_wp2_with fail
          go_ret
          exact ⟨by rw [HE.out]; rfl, HB.out⟩
        · have e1 : (r != 0) = true := by simp [h0]
          have HE := Lib.hid (ck_no (s := s) (fun h => h0 (by have := h.2.2; rw [HFF.out, ← hr2] at this; exact this)))
          clear h0 hr2
          go_wp2_with fail
          go_ret
          exact ⟨by rw [HE.out]; rfl, HB.out⟩
  · have e12 : (((s.size : Nat) : Int) != 12) = true := by simp; omega
    have HE := Lib.hid (ck_no (s := s) (fun h => h12 h.1))
    clear h12
    go_enter Tryd.func15, Tryd.ntmps15
    go_wp2_with fail
    go_ret
    exact ⟨by rw [HE.out]; rfl, Below.refl _ _⟩
end Go.Proofs.YtgghnamjjgmimaaDoor.Wk
