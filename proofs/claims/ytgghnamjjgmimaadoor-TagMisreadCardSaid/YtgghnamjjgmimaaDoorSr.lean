/- The reference's sum and check; agency and serial number, in the layer and in its reference. Conditions: at most 4096 bytes where said. -/
import Derived.Test.YtgghnamjjgmimaaDoorSg
set_option linter.unusedSimpArgs false
set_option linter.unusedVariables false
namespace Go.Proofs.YtgghnamjjgmimaaDoor.Mt
open Go
def nm (s : ByteArray) : Nat → Int
  | 0 => 0
  | k + 1 => 10 * nm s k + (bt s k - 48)
theorem nm_in {s : ByteArray} : ∀ {k : Nat}, Dgs s k → 0 ≤ nm s k ∧ nm s k < ((10 ^ k : Nat) : Int) := by
  intro k
  induction k with
  | zero => intro _; simp [nm]
  | succ k ih =>
    intro h
    have h1 := ih (fun i hi => h i (by omega))
    have h2 := h k (by omega)
    unfold Dg at h2
    rw [nm, Nat.pow_succ]
    omega
theorem nm_le {s : ByteArray} {k : Nat} (h : Dgs s k) (hk : k ≤ 8) : 0 ≤ nm s k ∧ nm s k < 100000000 := by
  have h1 := nm_in h
  have h2 : (10 ^ k : Nat) ≤ 10 ^ 8 := Nat.pow_le_pow_right (by omega) hk
  omega
theorem bt_extract {s : ByteArray} {a b i : Nat} (hb : b ≤ s.size) (hi : a + i < b) : bt (s.extract a b) i = bt s (a + i) := by
  have h1 : i < (s.extract a b).size := by rw [ByteArray.size_extract]; omega
  have h2 : a + i < s.size := by omega
  rw [← bt_at h1, ← bt_at h2]
  congr 2
  exact ByteArray.getElem_extract ..
theorem size_ex {s : ByteArray} {a b : Nat} (hb : b ≤ s.size) : (s.extract a b).size = b - a := by rw [ByteArray.size_extract]; omega
def agS (s : ByteArray) : ByteArray := if Tg s then s.extract 0 3 else ⟨#[]⟩
def srS (s : ByteArray) : Int := if Tg s then nm (s.extract 3 11) 8 else 0
theorem Tg.ser {s : ByteArray} (h : Tg s) : (s.extract 3 11).size = 8 ∧ Dgs (s.extract 3 11) 8 := by
  have h1 := h.1
  refine ⟨size_ex (by omega), fun i hi => ?_⟩
  rw [bt_extract (by omega) (by omega)]
  exact h.2.1 _ (by omega)
end Go.Proofs.YtgghnamjjgmimaaDoor.Mt
namespace Go.Proofs.YtgghnamjjgmimaaDoor.Wk
open Go.RowKit
open Go.Proofs.YtgghnamjjgmimaaDoor.Mt
set_option maxHeartbeats 2000000 in
set_option maxRecDepth 100000 in
theorem sum26 (s : ByteArray) (w : World) (hs : s.size ≤ 4096) : Calls Tryd.prog 26 #[.string s] w fun e w' => e = .returned (.int .i64 (smB s)) ∧ Below w.heap.size w w' := by
  obtain ⟨n, hn⟩ : ∃ n, s.size = n := ⟨_, rfl⟩
  have HN := Lib.hid hn
  have hn2 : n ≤ 4096 := by omega
  have hsz : ((s.size : Nat) : Int) = (n : Int) := by omega
  go_enter Tryd.func26, Tryd.ntmps26
  go_wp2_with fail
  go_loopw [3, 4] (fun fv iv wr => ∃ k : Nat, k ≤ n ∧ fv = .int .i64 (sm s k) ∧ iv = .int .i64 k ∧ Hid (Dgs s k) ∧ Hid (Below w.heap.size w wr)) (fun _ iv _ => n - (intOf iv).toNat)
  case atStart => exact ⟨0, Nat.zero_le _, rfl, rfl, Lib.hid (fun i hi => by omega), Lib.hid (Below.refl _ _)⟩
  case round =>
    obtain ⟨k, hk, rfl, rfl, HD, HB⟩ := hrel
    have hin := sm_in HD.out
    by_cases hlt : k < n
    · have hltI : (k : Int) < (n : Int) := by omega
      have hks : k < s.size := by omega
      have hbt := bt_at hks
      have hbr := bt_in s k
      have hd0 : Dg (bt s k) → Hid (Dgs s (k + 1)) := fun h => Lib.hid (HD.out.next h)
      have HE : Hid (sm s (k + 1) = sm s k + lu k (bt s k - 48)) := Lib.hid rfl
      have HNO : Hid (¬ Dg (bt s k) → smB s = -1) := Lib.hid (fun h => if_neg (fun h2 => h (h2 k (by omega))))
      obtain ⟨x, hx⟩ : ∃ x, bt s k = x := ⟨_, rfl⟩
      obtain ⟨f, hf⟩ : ∃ f, sm s k = f := ⟨_, rfl⟩
      rw [hx] at hbt hbr hd0 HE HNO
      rw [hf] at hin HE ⊢
      clear hx hf
      have hk0 : (0 : Int) ≤ (k : Int) := by omega
      by_cases hlo : x < 48
      · have HX := Lib.hid (HNO.out (by unfold Dg; omega))
        clear hd0 HE
        go_wp2_with fail
        go_ret
        exact ⟨by rw [HX.out]; rfl, HB.out⟩
      · have q1 : decide (x < 48) = false := decide_eq_false hlo
        by_cases hhi : 57 < x
        · have HX := Lib.hid (HNO.out (by unfold Dg; omega))
          clear hd0 HE
          go_wp2_with fail
          go_ret
          exact ⟨by rw [HX.out]; rfl, HB.out⟩
        · have q2 : decide (57 < x) = false := decide_eq_false hhi
          have HD2 := hd0 (by unfold Dg; omega)
          obtain ⟨d, hdd⟩ : ∃ d, x - 48 = d := ⟨_, rfl⟩
          rw [hdd] at HE
          have W1 : IntKind.u8.wrap (x - 48) = d := by rw [hdd]; exact IntWalk.u8_in _ (by omega)
          have W2 : IntKind.i64.wrap d = d := IntWalk.i64_in _ (by omega)
          have W3 : IntKind.i64.wrap (2 * d) = 2 * d := IntWalk.i64_in _ (by omega)
          have W4 : IntKind.i64.wrap (2 * d - 9) = 2 * d - 9 := IntWalk.i64_in _ (by omega)
          obtain ⟨r, hr⟩ : ∃ r : Int, Int.tmod (k : Int) 2 = r := ⟨_, rfl⟩
          have hr2 := tm2 (i := k)
          rw [hr] at hr2
          have W0 : IntKind.i64.wrap r = r := IntWalk.i64_in _ (by omega)
          by_cases h1 : k % 2 = 1
          · have HL := Lib.hid (show lu k d = d by unfold lu; rw [if_pos h1])
            have e1 : (r == 0) = false := by simp; omega
            have q3 : decide (9 < d) = false := decide_eq_false (by omega)
            have W5 : IntKind.i64.wrap (f + d) = f + d := IntWalk.i64_in _ (by omega)
            clear hr2 h1 hdd hin hlo hhi HNO hd0
            go_wp2_with fail
            go_roundw
            case rel => exact ⟨k + 1, by omega, by rw [HE.out, HL.out], by go_num, HD2, HB⟩
            case measure => simp [intOf]; omega
          · have e1 : (r == 0) = true := by simp; omega
            by_cases h4 : 4 < d
            · have HL := Lib.hid (show lu k d = 2 * d - 9 by unfold lu; rw [if_neg h1, if_pos h4])
              have q3 : 9 < 2 * d := by omega
              have W5 : IntKind.i64.wrap (f + (2 * d - 9)) = f + (2 * d - 9) := IntWalk.i64_in _ (by omega)
              clear hr2 h1 hdd hin hlo hhi HNO hd0 h4
              go_wp2_with fail
              go_roundw
              case rel => exact ⟨k + 1, by omega, by rw [HE.out, HL.out], by go_num, HD2, HB⟩
              case measure => simp [intOf]; omega
            · have HL := Lib.hid (show lu k d = 2 * d by unfold lu; rw [if_neg h1, if_neg h4])
              have q3 : decide (9 < 2 * d) = false := decide_eq_false (by omega)
              have W5 : IntKind.i64.wrap (f + 2 * d) = f + 2 * d := IntWalk.i64_in _ (by omega)
              clear hr2 h1 hdd hin hlo hhi HNO hd0 h4
              go_wp2_with fail
              go_roundw
              case rel => exact ⟨k + 1, by omega, by rw [HE.out, HL.out], by go_num, HD2, HB⟩
              case measure => simp [intOf]; omega
    · have hltI : ¬ (k : Int) < (n : Int) := by omega
      have hkn : k = n := by omega
      subst hkn
      have HX : Hid (smB s = sm s k) := Lib.hid (by unfold smB; rw [HN.out, if_pos HD.out])
      go_wp2_with fail
      go_ret
      exact ⟨by first | (rw [HX.out]; done) | (rw [HX.out]; rfl), HB.out⟩
theorem check16 (s : ByteArray) (w : World) : Calls Tryd.prog 16 #[.string s] w fun e w' => e = .returned (.int .i64 (ck s)) ∧ Below w.heap.size w w' := by
  by_cases h12 : s.size = 12
  · have e12 : (((s.size : Nat) : Int) != 12) = false := by rw [h12]; rfl
    obtain ⟨t, ht⟩ : ∃ t, smB s = t := ⟨_, rfl⟩
    have HT := Lib.hid ht
    have HS := Lib.hid h12
    clear ht h12
    go_enter Tryd.func16, Tryd.ntmps16
    go_wp2_with fail
    refine (sum26 s _ (by rw [HS.out]; omega)).mono ?_
    rintro e w1 ⟨rfl, hb⟩
    rw [HT.out]
    have HB := Lib.hid hb
    clear hb e12
    by_cases hd : Dgs s 12
    · have hts : t = sm s 12 := by rw [← HT.out]; unfold smB; rw [HS.out, if_pos hd]
      have hin := sm_in hd
      have HTS := Lib.hid hts
      rw [← hts] at hin
      clear hts
      have q1 : decide (t < 0) = false := decide_eq_false (by omega)
      obtain ⟨r, hr⟩ : ∃ r, Int.tmod t 10 = r := ⟨_, rfl⟩
      have hr2 := mod10 hin.1
      rw [hr] at hr2
      have W1 : IntKind.i64.wrap r = r := IntWalk.i64_in _ (by omega)
      by_cases h0 : r = 0
      · have e1 : (r != 0) = false := by simp [h0]
        have HE := Lib.hid (ck_yes (s := s) ⟨HS.out, hd, by rw [← HTS.out, ← hr2]; exact h0⟩)
        clear h0 hr2 hd
        go_wp2_with fail
        go_ret
        exact ⟨by rw [HE.out]; rfl, HB.out⟩
      · have e1 : (r != 0) = true := by simp [h0]
        have HE := Lib.hid (ck_no (s := s) (fun h => h0 (by have := h.2.2; rw [← HTS.out, ← hr2] at this; exact this)))
        clear h0 hr2 hd
        go_wp2_with fail
        go_ret
        exact ⟨by rw [HE.out]; rfl, HB.out⟩
    · have hts : t = -1 := by rw [← HT.out]; unfold smB; rw [HS.out, if_neg hd]
      have HE := Lib.hid (ck_no (s := s) (fun h => hd h.2.1))
      clear hd
      subst hts
      go_wp2_with fail
      go_ret
      exact ⟨by rw [HE.out]; rfl, HB.out⟩
  · have e12 : (((s.size : Nat) : Int) != 12) = true := by simp; omega
    have HE := Lib.hid (ck_no (s := s) (fun h => h12 h.1))
    clear h12
    go_enter Tryd.func16, Tryd.ntmps16
    go_wp2_with fail
    go_ret
    exact ⟨by rw [HE.out]; rfl, Below.refl _ _⟩
set_option maxHeartbeats 1000000 in
theorem number24 (s : ByteArray) (w : World) (h8 : s.size = 8) (hd8 : Dgs s 8) : Calls Tryd.prog 24 #[.string s] w fun e w' => e = .returned (.int .i64 (nm s 8)) ∧ Below w.heap.size w w' := by
  have hsz : ((s.size : Nat) : Int) = 8 := by omega
  have HN := Lib.hid h8
  have HD8 := Lib.hid hd8
  clear h8 hd8
  go_enter Tryd.func24, Tryd.ntmps24
  go_wp2_with fail
  go_loopw [3, 4] (fun fv iv wr => ∃ k : Nat, k ≤ 8 ∧ fv = .int .i64 (nm s k) ∧ iv = .int .i64 k ∧ Hid (Below w.heap.size w wr)) (fun _ iv _ => 8 - (intOf iv).toNat)
  case atStart => exact ⟨0, Nat.zero_le _, rfl, rfl, Lib.hid (Below.refl _ _)⟩
  case round =>
    obtain ⟨k, hk, rfl, rfl, HB⟩ := hrel
    have hin := nm_le (s := s) (k := k) (fun i hi => HD8.out i (by omega)) hk
    by_cases hlt : k < 8
    · have hltI : (k : Int) < 8 := by omega
      have hks : k < s.size := by rw [HN.out]; exact hlt
      have hbt := bt_at hks
      have hd := HD8.out k hlt
      have HE : Hid (nm s (k + 1) = 10 * nm s k + (bt s k - 48)) := Lib.hid rfl
      obtain ⟨x, hx⟩ : ∃ x, bt s k = x := ⟨_, rfl⟩
      obtain ⟨f, hf⟩ : ∃ f, nm s k = f := ⟨_, rfl⟩
      rw [hx] at hbt hd HE
      rw [hf] at hin HE ⊢
      unfold Dg at hd
      have hk0 : (0 : Int) ≤ (k : Int) := by omega
      have W1 : IntKind.u8.wrap (x - 48) = x - 48 := IntWalk.u8_in _ (by omega)
      have W2 : IntKind.i64.wrap (x - 48) = x - 48 := IntWalk.i64_in _ (by omega)
      have W3 : IntKind.i64.wrap (10 * f) = 10 * f := IntWalk.i64_in _ (by omega)
      have W4 : IntKind.i64.wrap (10 * f + (x - 48)) = 10 * f + (x - 48) := IntWalk.i64_in _ (by omega)
      clear hx hf hin hd
      go_wp2_with fail
      go_roundw
      case rel => exact ⟨k + 1, by omega, by rw [HE.out], by go_num, HB⟩
      case measure => simp [intOf]; omega
    · have hltI : ¬ (k : Int) < 8 := by omega
      have hkn : k = 8 := by omega
      subst hkn
      go_wp2_with fail
      go_ret
      exact ⟨rfl, HB.out⟩
theorem agency11 (s : ByteArray) (w : World) : Calls Tryd.prog 11 #[.string s] w fun e w' => e = .returned (.tuple #[.string (agS s), .int .i64 (ck s)]) ∧ Below w.heap.size w w' := by
  by_cases ht : Tg s
  · have HT := Lib.hid ht
    have h12 : (3 : Int) ≤ ((s.size : Nat) : Int) := by have := ht.1; omega
    have HE : Hid (agS s = s.extract 0 3) := Lib.hid (if_pos ht)
    have HC := Lib.hid (ck_yes ht)
    clear ht
    go_enter Tryd.func11, Tryd.ntmps11
    go_wp2_with fail
    refine (check15 s _).mono ?_
    rintro e w1 ⟨rfl, hb⟩
    rw [HC.out]
    have HB := Lib.hid hb
    clear hb
    go_wp2_with fail
    go_ret2
    exact ⟨by rw [HE.out, HC.out]; rfl, HB.out⟩
  · have HE : Hid (agS s = ⟨#[]⟩) := Lib.hid (if_neg ht)
    have HC := Lib.hid (ck_no ht)
    clear ht
    go_enter Tryd.func11, Tryd.ntmps11
    go_wp2_with fail
    refine (check15 s _).mono ?_
    rintro e w1 ⟨rfl, hb⟩
    rw [HC.out]
    have HB := Lib.hid hb
    clear hb
    go_wp2_with fail
    go_ret2
    exact ⟨by rw [HE.out, HC.out]; rfl, HB.out⟩
theorem agency13 (s : ByteArray) (w : World) : Calls Tryd.prog 13 #[.string s] w fun e w' => e = .returned (.tuple #[.string (agS s), .int .i64 (ck s)]) ∧ Below w.heap.size w w' := by
  by_cases ht : Tg s
  · have HT := Lib.hid ht
    have h12 : (3 : Int) ≤ ((s.size : Nat) : Int) := by have := ht.1; omega
    have HE : Hid (agS s = s.extract 0 3) := Lib.hid (if_pos ht)
    have HC := Lib.hid (ck_yes ht)
    clear ht
    go_enter Tryd.func13, Tryd.ntmps13
    go_wp2_with fail
    refine (check16 s _).mono ?_
    rintro e w1 ⟨rfl, hb⟩
    rw [HC.out]
    have HB := Lib.hid hb
    clear hb
    go_wp2_with fail
    go_ret2
    exact ⟨by rw [HE.out, HC.out]; rfl, HB.out⟩
  · have HE : Hid (agS s = ⟨#[]⟩) := Lib.hid (if_neg ht)
    have HC := Lib.hid (ck_no ht)
    clear ht
    go_enter Tryd.func13, Tryd.ntmps13
    go_wp2_with fail
    refine (check16 s _).mono ?_
    rintro e w1 ⟨rfl, hb⟩
    rw [HC.out]
    have HB := Lib.hid hb
    clear hb
    go_wp2_with fail
    go_ret2
    exact ⟨by rw [HE.out, HC.out]; rfl, HB.out⟩
theorem serial14 (s : ByteArray) (w : World) : Calls Tryd.prog 14 #[.string s] w fun e w' => e = .returned (.tuple #[.int .i64 (srS s), .int .i64 (ck s)]) ∧ Below w.heap.size w w' := by
  by_cases ht : Tg s
  · have h12 : (11 : Int) ≤ ((s.size : Nat) : Int) := by have := ht.1; omega
    have HE : Hid (srS s = nm (s.extract 3 11) 8) := Lib.hid (if_pos ht)
    have HC := Lib.hid (ck_yes ht)
    have HS := Lib.hid ht.ser
    clear ht
    go_enter Tryd.func14, Tryd.ntmps14
    go_wp2_with fail
    refine (check16 s _).mono ?_
    rintro e w1 ⟨rfl, hb⟩
    rw [HC.out]
    have HB := Lib.hid hb
    clear hb
    go_wp2_with fail
    refine (number24 _ _ HS.out.1 HS.out.2).mono ?_
    rintro e w2 ⟨rfl, hb⟩
    replace HB := Lib.hid (upB HB.out hb)
    clear hb
    go_wp2_with fail
    go_ret2
    exact ⟨by rw [HE.out, HC.out]; rfl, HB.out⟩
  · have HE : Hid (srS s = 0) := Lib.hid (if_neg ht)
    have HC := Lib.hid (ck_no ht)
    clear ht
    go_enter Tryd.func14, Tryd.ntmps14
    go_wp2_with fail
    refine (check16 s _).mono ?_
    rintro e w1 ⟨rfl, hb⟩
    rw [HC.out]
    have HB := Lib.hid hb
    clear hb
    go_wp2_with fail
    go_ret2
    exact ⟨by rw [HE.out, HC.out]; rfl, HB.out⟩
set_option maxHeartbeats 1000000 in
theorem serial12 (s : ByteArray) (w : World) : Calls Tryd.prog 12 #[.string s] w fun e w' => e = .returned (.tuple #[.int .i64 (srS s), .int .i64 (ck s)]) ∧ Below w.heap.size w w' := by
  by_cases ht : Tg s
  · have h12 : (11 : Int) ≤ ((s.size : Nat) : Int) := by have := ht.1; omega
    have HE : Hid (srS s = nm (s.extract 3 11) 8) := Lib.hid (if_pos ht)
    have HC := Lib.hid (ck_yes ht)
    have hse := ht.ser
    obtain ⟨u, hu⟩ : ∃ u, s.extract 3 11 = u := ⟨_, rfl⟩
    rw [hu] at HE hse
    have HS := Lib.hid hse
    clear ht hse
    go_enter Tryd.func12, Tryd.ntmps12
    go_wp2_with fail
    refine (check15 s _).mono ?_
    rintro e w1 ⟨rfl, hb⟩
    rw [HC.out]
    have HB1 := Lib.hid hb
    clear hb
    go_wp2_with fail
    go_loopw [5] (fun sv wr => ∃ pos : Nat, pos ≤ 8 ∧ sv = .int .i64 (nm u pos) ∧ wr.heap[w1.heap.size]? = some (.stringIter u pos) ∧ Hid (Below w1.heap.size w1 wr)) (fun _ wr => 8 - wr.iterPos w1.heap.size)
    case atStart => exact ⟨0, by omega, rfl, World.iter_heap w1 u 0, Lib.hid (b1 _ _)⟩
    case round =>
      obtain ⟨pos, hpos, rfl, hit, HB⟩ := hrel
      have hsz : w1.heap.size < wr.heap.size := (Array.getElem?_eq_some_iff.1 hit).1
      have hin := nm_le (s := u) (k := pos) (fun i hi => HS.out.2 i (by omega)) hpos
      by_cases hlt : pos < 8
      · have hlt2 : Hid (pos < u.size) := Lib.hid (by rw [HS.out.1]; exact hlt)
        have hd := HS.out.2 pos hlt
        have hnx : ∀ ty, (Instr.next (.pointer (some ⟨w1.heap.size, 0, none⟩)) true ty).run Tryd.prog wr = _ := fun ty => next_digit wr w1.heap.size u pos hit hlt2.out hd ty
        have HEE : Hid (nm u (pos + 1) = 10 * nm u pos + (bt u pos - 48)) := Lib.hid rfl
        have hit2 := Lib.iterAt_heap wr w1.heap.size u pos (pos + 1) hit
        have HB2 := Lib.hid (Lib.below_iterAt HB.out (k := w1.heap.size) (Nat.le_refl _) u (pos + 1))
        obtain ⟨x, hx⟩ : ∃ x, bt u pos = x := ⟨_, rfl⟩
        obtain ⟨f, hf⟩ : ∃ f, nm u pos = f := ⟨_, rfl⟩
        rw [hx] at hd hnx HEE
        rw [hf] at hin HEE ⊢
        unfold Dg at hd
        have W1 : IntKind.i32.wrap (x - 48) = x - 48 := IntWalk.i32_in _ (by omega)
        have W2 : IntKind.i64.wrap (x - 48) = x - 48 := IntWalk.i64_in _ (by omega)
        have W3 : IntKind.i64.wrap (10 * f) = 10 * f := IntWalk.i64_in _ (by omega)
        have W4 : IntKind.i64.wrap (10 * f + (x - 48)) = 10 * f + (x - 48) := IntWalk.i64_in _ (by omega)
        clear hx hf hin hd
        go_wp2_with fail
        go_roundw
        case rel => exact ⟨pos + 1, by omega, by rw [HEE.out], hit2, HB2⟩
        case measure =>
          simp only [World.iterPos, hit2, hit]
          omega
      · have hnx : ∀ ty, (Instr.next (.pointer (some ⟨w1.heap.size, 0, none⟩)) true ty).run Tryd.prog wr = _ := fun ty => Lib.run_next_end_at wr w1.heap.size u pos ty hit (by rw [HS.out.1]; exact hlt)
        have hp : pos = 8 := by omega
        subst hp
        go_wp2_with fail
        go_ret2
        exact ⟨by rw [HE.out, HC.out]; rfl, upB HB1.out HB.out⟩
  · have HE : Hid (srS s = 0) := Lib.hid (if_neg ht)
    have HC := Lib.hid (ck_no ht)
    clear ht
    go_enter Tryd.func12, Tryd.ntmps12
    go_wp2_with fail
    refine (check15 s _).mono ?_
    rintro e w1 ⟨rfl, hb⟩
    rw [HC.out]
    have HB := Lib.hid hb
    clear hb
    go_wp2_with fail
    go_ret2
    exact ⟨by rw [HE.out, HC.out]; rfl, HB.out⟩
end Go.Proofs.YtgghnamjjgmimaaDoor.Wk
