/- Number in the reference. No condition. -/
import Derived.Test.YtcgcccieccicnaaDoorRw
set_option linter.unusedSimpArgs false
set_option linter.unusedVariables false
namespace Go.Proofs.YtcgcccieccicnaaDoor.Mt
def sg (s : ByteArray) : Nat := if 0 < s.size ∧ bt s 0 = 45 then 1 else 0
/-- the value of the digits from a on, before i -/
def nv (s : ByteArray) (a : Nat) : Nat → Nat
  | 0 => 0
  | i + 1 => if i < a then 0 else nv s a i * 10 + (bt s i - 48).toNat
theorem nv_lo {s : ByteArray} {a : Nat} : ∀ i, i ≤ a → nv s a i = 0 := by
  intro i h
  rcases i with _ | i
  · rfl
  · rw [nv, if_pos (by omega)]
theorem nv_next {s : ByteArray} {a i : Nat} (h : a ≤ i) : nv s a (i + 1) = nv s a i * 10 + (bt s i - 48).toNat := by rw [nv, if_neg (by omega)]
theorem nv_mono {s : ByteArray} {a i j : Nat} (h0 : a ≤ i) (h : i ≤ j) : nv s a i ≤ nv s a j := by
  obtain ⟨d, rfl⟩ : ∃ d, j = i + d := ⟨j - i, by omega⟩
  induction d with
  | zero => exact Nat.le_refl _
  | succ d ih =>
    have h1 := ih (by omega)
    rw [← Nat.add_assoc, nv_next (by omega)]
    omega
def Nb (s : ByteArray) : Prop := sg s < s.size ∧ ¬ (bt s (sg s) = 48 ∧ (sg s = 1 ∨ 1 < s.size)) ∧ ∀ j, sg s ≤ j → j < s.size → 48 ≤ bt s j ∧ bt s j ≤ 57
noncomputable def nbE (s : ByteArray) : Int := by
  classical exact if Nb s then (if 2147483648 < nv s (sg s) s.size then 2 else 0) else 5
noncomputable def nbV (s : ByteArray) : Int := by
  classical exact if Nb s then (if 2147483648 < nv s (sg s) s.size then 0 else if sg s = 1 then -(nv s (sg s) s.size : Int) else (nv s (sg s) s.size : Int)) else 0
theorem nb_bad {s : ByteArray} (h : ¬ Nb s) : nbV s = 0 ∧ nbE s = 5 := by unfold nbV nbE; rw [if_neg h, if_neg h]; exact ⟨rfl, rfl⟩
theorem nb_big {s : ByteArray} (h : Nb s) (h2 : 2147483648 < nv s (sg s) s.size) : nbV s = 0 ∧ nbE s = 2 := by unfold nbV nbE; rw [if_pos h, if_pos h, if_pos h2, if_pos h2]; exact ⟨rfl, rfl⟩
theorem nb_neg {s : ByteArray} (h : Nb s) (h2 : ¬ 2147483648 < nv s (sg s) s.size) (h3 : sg s = 1) : nbV s = -(nv s (sg s) s.size : Int) ∧ nbE s = 0 := by unfold nbV nbE; rw [if_pos h, if_pos h, if_neg h2, if_neg h2, if_pos h3]; exact ⟨rfl, rfl⟩
theorem nb_pos {s : ByteArray} (h : Nb s) (h2 : ¬ 2147483648 < nv s (sg s) s.size) (h3 : sg s = 0) : nbV s = (nv s (sg s) s.size : Int) ∧ nbE s = 0 := by unfold nbV nbE; rw [if_pos h, if_pos h, if_neg h2, if_neg h2, if_neg (by omega)]; exact ⟨rfl, rfl⟩
end Go.Proofs.YtcgcccieccicnaaDoor.Mt
namespace Go.Proofs.YtcgcccieccicnaaDoor.Wk
open Go.RowKit
open Go.Proofs.YtcgcccieccicnaaDoor.Mt
set_option maxHeartbeats 4000000 in
set_option maxRecDepth 100000 in
theorem number20 (s : ByteArray) (w : World) (hle : s.size ≤ 100000) : Calls Tryd.prog 20 #[.string s] w fun e w' => e = .returned (.tuple #[.int .i64 (nbV s), .int .i64 (nbE s)]) ∧ Below w.heap.size w w' := by
  obtain ⟨n, hn⟩ : ∃ n, s.size = n := ⟨_, rfl⟩
  have HN := Lib.hid hn
  have hsz : ((s.size : Nat) : Int) = (n : Int) := by omega
  have hnn : n ≤ 100000 := by omega
  clear hle
  go_enter Tryd.func20, Tryd.ntmps20
  by_cases h0 : n = 0
  · have HE := Lib.hid (nb_bad (s := s) (fun h => by have := h.1; omega))
    have q0 : ¬ (0 : Int) < (n : Int) := by omega
    have q1 : ((0 : Int) == (n : Int)) = true := by simp [h0]
    clear h0 hn
    go_wp2_with fail
    go_ret2
    exact ⟨by rw [HE.out.1, HE.out.2]; rfl, Below.refl _ _⟩
  · have q0 : (0 : Int) < (n : Int) := by omega
    have k0 : 0 < s.size := by omega
    obtain ⟨x0, hx0⟩ : ∃ x, bt s 0 = x := ⟨_, rfl⟩
    have g0 := (bt_at k0).trans hx0
    by_cases e0 : x0 = 45
    · subst e0
      have HA : Hid (sg s = 1) := Lib.hid (by unfold sg; rw [if_pos ⟨k0, hx0⟩])
      by_cases h1 : n = 1
      · have HE := Lib.hid (nb_bad (s := s) (fun h => by have := h.1; rw [HA.out] at this; omega))
        have q1 : ((1 : Int) == (n : Int)) = true := by simp [h1]
        clear h1 hn h0 hx0
        go_wp2_with fail
        go_ret2
        exact ⟨by rw [HE.out.1, HE.out.2]; rfl, Below.refl _ _⟩
      · have q1 : ((1 : Int) == (n : Int)) = false := by simp; omega
        have k1 : 1 < s.size := by omega
        obtain ⟨x1, hx1⟩ : ∃ x, bt s 1 = x := ⟨_, rfl⟩
        have g1 := (bt_at k1).trans hx1
        by_cases e1 : x1 = 48
        · subst e1
          have HE := Lib.hid (nb_bad (s := s) (fun h => h.2.1 ⟨by rw [HA.out]; exact hx1, .inl HA.out⟩))
          clear h1 hn h0 hx0 hx1
          go_wp2_with fail
          go_ret2
          exact ⟨by rw [HE.out.1, HE.out.2]; rfl, Below.refl _ _⟩
        · have q2 : (x1 == 48) = false := by simp [e1]
          have HZ : Hid (¬ (bt s (sg s) = 48 ∧ (sg s = 1 ∨ 1 < s.size))) := Lib.hid (fun h => e1 (hx1.symm.trans (by rw [HA.out] at h; exact h.1)))
          clear hx0 hx1
          go_wp2_with fail
          clear g0 g1 q1 q2 e1
          go_loopw [5, 6] (fun vv iv wr => ∃ (k : Nat) (v : Nat), 1 ≤ k ∧ k ≤ n ∧ v ≤ 21474836489 ∧ iv = .int .i64 k ∧ vv = .int .i64 v ∧ Hid (∀ j, 1 ≤ j → j < k → 48 ≤ bt s j ∧ bt s j ≤ 57) ∧ Hid (v ≤ 2147483648 → v = nv s 1 k) ∧ Hid (2147483648 < v → 2147483648 < nv s 1 k) ∧ Hid (Below w.heap.size w wr)) (fun _ iv _ => n - (intOf iv).toNat)
          case atStart => exact ⟨1, 0, Nat.le_refl _, by omega, by omega, rfl, rfl, Lib.hid (fun j h1 h2 => by omega), Lib.hid (fun _ => (nv_lo _ (Nat.le_refl _)).symm), Lib.hid (fun h => by omega), Lib.hid (Below.refl _ _)⟩
          case round =>
            obtain ⟨k, v, hk0, hk, hv, rfl, rfl, HD, HV, HG, HB⟩ := hrel
            by_cases hlt : k < n
            · have hltI : (k : Int) < (n : Int) := by omega
              have hks : k < s.size := by omega
              obtain ⟨x, hx⟩ : ∃ x, bt s k = x := ⟨_, rfl⟩
              have bx := bt_in s k
              rw [hx] at bx
              have gx := (bt_at hks).trans hx
              have hk9 : k ≤ 9223372036854775806 := by omega
              have W0 : IntKind.i64.wrap ((k : Int) + 1) = (k : Int) + 1 := IntWalk.i64_in _ (by omega)
              have HX := Lib.hid hx
              clear hx
              by_cases hd : 48 ≤ x ∧ x ≤ 57
              · have l1 : ¬ x < 48 := by omega
                have l2 : ¬ 57 < x := by omega
                have HDD : Hid (∀ j, 1 ≤ j → j < k + 1 → 48 ≤ bt s j ∧ bt s j ≤ 57) := Lib.hid (fun j h1 h2 => by
                  rcases Nat.lt_or_ge j k with h3 | h3
                  · exact HD.out j h1 h3
                  · obtain rfl : j = k := by omega
                    rw [HX.out]; exact hd)
                have HNX : Hid (nv s 1 (k + 1) = nv s 1 k * 10 + (x - 48).toNat) := Lib.hid (by rw [nv_next hk0, HX.out])
                by_cases hc : v ≤ 2147483648
                · have hcI : (v : Int) ≤ 2147483648 := by omega
                  obtain ⟨y, hy⟩ : ∃ y : Nat, (x - 48) = (y : Int) := ⟨(x - 48).toNat, by omega⟩
                  have W1 : IntKind.i64.wrap ((v : Int) * 10) = (v : Int) * 10 := IntWalk.i64_in _ (by omega)
                  have W2 : IntKind.u8.wrap (x - 48) = (y : Int) := by rw [hy]; exact IntWalk.u8_in _ (by omega)
                  have W3 : IntKind.i64.wrap (y : Int) = (y : Int) := IntWalk.i64_in _ (by omega)
                  have W4 : IntKind.i64.wrap ((v : Int) * 10 + (y : Int)) = ((v * 10 + y : Nat) : Int) := by rw [IntWalk.i64_in _ (by omega)]; omega
                  have HV2 : Hid (v * 10 + y = nv s 1 (k + 1)) := Lib.hid (by rw [HNX.out, ← HV.out hc]; omega)
                  have hvv : v * 10 + y ≤ 21474836489 := by omega
                  clear hy hd
                  go_wp2_with fail
                  go_roundw
                  case rel => exact ⟨k + 1, v * 10 + y, by omega, by omega, hvv, by go_num, rfl, HDD, Lib.hid (fun _ => HV2.out), Lib.hid (fun h => by rw [← HV2.out]; exact h), HB⟩
                  case measure => simp [intOf]; omega
                · have hcI : ¬ (v : Int) ≤ 2147483648 := by omega
                  clear hd
                  go_wp2_with fail
                  go_roundw
                  case rel => exact ⟨k + 1, v, by omega, by omega, hv, by go_num, rfl, HDD, Lib.hid (fun h => absurd h hc), Lib.hid (fun h => by have := HG.out h; rw [HNX.out]; omega), HB⟩
                  case measure => simp [intOf]; omega
              · have HE := Lib.hid (nb_bad (s := s) (fun h => hd (by rw [← HX.out]; exact h.2.2 k (by rw [HA.out]; omega) hks)))
                rcases (by omega : x < 48 ∨ (¬ x < 48 ∧ 57 < x)) with l1 | ⟨l1, l2⟩
                · clear hd
                  go_wp2_with fail
                  go_ret2
                  exact ⟨by rw [HE.out.1, HE.out.2]; rfl, HB.out⟩
                · clear hd
                  go_wp2_with fail
                  go_ret2
                  exact ⟨by rw [HE.out.1, HE.out.2]; rfl, HB.out⟩
            · have hltI : ¬ (k : Int) < (n : Int) := by omega
              obtain rfl : k = n := by omega
              have HNB : Hid (Nb s) := Lib.hid ⟨by rw [HA.out]; omega, HZ.out, fun j h1 h2 => HD.out j (by rw [← HA.out]; exact h1) (by omega)⟩
              by_cases hc : 2147483648 < v
              · have hcI : (2147483648 : Int) < (v : Int) := by omega
                have HE := Lib.hid (nb_big HNB.out (by rw [HA.out, HN.out]; exact HG.out hc))
                go_wp2_with fail
                go_ret2
                exact ⟨by rw [HE.out.1, HE.out.2]; rfl, HB.out⟩
              · have hcI : ¬ (2147483648 : Int) < (v : Int) := by omega
                have hvn := HV.out (by omega)
                have HE : Hid (nbV s = -(v : Int) ∧ nbE s = 0) := Lib.hid (by
                  have h := nb_neg HNB.out (by rw [HA.out, HN.out, ← hvn]; exact hc) HA.out
                  rw [HA.out, HN.out, ← hvn] at h
                  exact h)
                clear hvn
                have hv0 : IntKind.i64.wrap (-(v : Int)) = -(v : Int) := IntWalk.i64_in _ (by omega)
                go_wp2_with fail
                go_ret2
                exact ⟨by rw [HE.out.1, HE.out.2]; rfl, HB.out⟩

    · have q5 : (x0 == 45) = false := by simp [e0]
      have HA : Hid (sg s = 0) := Lib.hid (by unfold sg; rw [if_neg (fun h => e0 (hx0.symm.trans h.2))])
      have q1 : ((0 : Int) == (n : Int)) = false := by simp; omega
      by_cases e1 : x0 = 48
      · subst e1
        by_cases h1 : 1 < n
        · have q3 : (1 : Int) < (n : Int) := by omega
          have HE := Lib.hid (nb_bad (s := s) (fun h => h.2.1 ⟨by rw [HA.out]; exact hx0, .inr (by omega)⟩))
          clear h1 hn h0 hx0
          go_wp2_with fail
          go_ret2
          exact ⟨by rw [HE.out.1, HE.out.2]; rfl, Below.refl _ _⟩
        · have q3 : ¬ (1 : Int) < (n : Int) := by omega
          have HZ : Hid (¬ (bt s (sg s) = 48 ∧ (sg s = 1 ∨ 1 < s.size))) := Lib.hid (fun h => by have := HA.out; omega)
          clear hx0 e0
          go_wp2_with fail
          clear g0 q1 q3 q5
          go_loopw [5, 6] (fun vv iv wr => ∃ (k : Nat) (v : Nat), 0 ≤ k ∧ k ≤ n ∧ v ≤ 21474836489 ∧ iv = .int .i64 k ∧ vv = .int .i64 v ∧ Hid (∀ j, 0 ≤ j → j < k → 48 ≤ bt s j ∧ bt s j ≤ 57) ∧ Hid (v ≤ 2147483648 → v = nv s 0 k) ∧ Hid (2147483648 < v → 2147483648 < nv s 0 k) ∧ Hid (Below w.heap.size w wr)) (fun _ iv _ => n - (intOf iv).toNat)
          case atStart => exact ⟨0, 0, Nat.le_refl _, by omega, by omega, rfl, rfl, Lib.hid (fun j h1 h2 => by omega), Lib.hid (fun _ => (nv_lo _ (Nat.le_refl _)).symm), Lib.hid (fun h => by omega), Lib.hid (Below.refl _ _)⟩
          case round =>
            obtain ⟨k, v, hk0, hk, hv, rfl, rfl, HD, HV, HG, HB⟩ := hrel
            by_cases hlt : k < n
            · have hltI : (k : Int) < (n : Int) := by omega
              have hks : k < s.size := by omega
              obtain ⟨x, hx⟩ : ∃ x, bt s k = x := ⟨_, rfl⟩
              have bx := bt_in s k
              rw [hx] at bx
              have gx := (bt_at hks).trans hx
              have hk9 : k ≤ 9223372036854775806 := by omega
              have W0 : IntKind.i64.wrap ((k : Int) + 1) = (k : Int) + 1 := IntWalk.i64_in _ (by omega)
              have HX := Lib.hid hx
              clear hx
              by_cases hd : 48 ≤ x ∧ x ≤ 57
              · have l1 : ¬ x < 48 := by omega
                have l2 : ¬ 57 < x := by omega
                have HDD : Hid (∀ j, 0 ≤ j → j < k + 1 → 48 ≤ bt s j ∧ bt s j ≤ 57) := Lib.hid (fun j h1 h2 => by
                  rcases Nat.lt_or_ge j k with h3 | h3
                  · exact HD.out j h1 h3
                  · obtain rfl : j = k := by omega
                    rw [HX.out]; exact hd)
                have HNX : Hid (nv s 0 (k + 1) = nv s 0 k * 10 + (x - 48).toNat) := Lib.hid (by rw [nv_next hk0, HX.out])
                by_cases hc : v ≤ 2147483648
                · have hcI : (v : Int) ≤ 2147483648 := by omega
                  obtain ⟨y, hy⟩ : ∃ y : Nat, (x - 48) = (y : Int) := ⟨(x - 48).toNat, by omega⟩
                  have W1 : IntKind.i64.wrap ((v : Int) * 10) = (v : Int) * 10 := IntWalk.i64_in _ (by omega)
                  have W2 : IntKind.u8.wrap (x - 48) = (y : Int) := by rw [hy]; exact IntWalk.u8_in _ (by omega)
                  have W3 : IntKind.i64.wrap (y : Int) = (y : Int) := IntWalk.i64_in _ (by omega)
                  have W4 : IntKind.i64.wrap ((v : Int) * 10 + (y : Int)) = ((v * 10 + y : Nat) : Int) := by rw [IntWalk.i64_in _ (by omega)]; omega
                  have HV2 : Hid (v * 10 + y = nv s 0 (k + 1)) := Lib.hid (by rw [HNX.out, ← HV.out hc]; omega)
                  have hvv : v * 10 + y ≤ 21474836489 := by omega
                  clear hy hd
                  go_wp2_with fail
                  go_roundw
                  case rel => exact ⟨k + 1, v * 10 + y, by omega, by omega, hvv, by go_num, rfl, HDD, Lib.hid (fun _ => HV2.out), Lib.hid (fun h => by rw [← HV2.out]; exact h), HB⟩
                  case measure => simp [intOf]; omega
                · have hcI : ¬ (v : Int) ≤ 2147483648 := by omega
                  clear hd
                  go_wp2_with fail
                  go_roundw
                  case rel => exact ⟨k + 1, v, by omega, by omega, hv, by go_num, rfl, HDD, Lib.hid (fun h => absurd h hc), Lib.hid (fun h => by have := HG.out h; rw [HNX.out]; omega), HB⟩
                  case measure => simp [intOf]; omega
              · have HE := Lib.hid (nb_bad (s := s) (fun h => hd (by rw [← HX.out]; exact h.2.2 k (by rw [HA.out]; omega) hks)))
                rcases (by omega : x < 48 ∨ (¬ x < 48 ∧ 57 < x)) with l1 | ⟨l1, l2⟩
                · clear hd
                  go_wp2_with fail
                  go_ret2
                  exact ⟨by rw [HE.out.1, HE.out.2]; rfl, HB.out⟩
                · clear hd
                  go_wp2_with fail
                  go_ret2
                  exact ⟨by rw [HE.out.1, HE.out.2]; rfl, HB.out⟩
            · have hltI : ¬ (k : Int) < (n : Int) := by omega
              obtain rfl : k = n := by omega
              have HNB : Hid (Nb s) := Lib.hid ⟨by rw [HA.out]; omega, HZ.out, fun j h1 h2 => HD.out j (by rw [← HA.out]; exact h1) (by omega)⟩
              by_cases hc : 2147483648 < v
              · have hcI : (2147483648 : Int) < (v : Int) := by omega
                have HE := Lib.hid (nb_big HNB.out (by rw [HA.out, HN.out]; exact HG.out hc))
                go_wp2_with fail
                go_ret2
                exact ⟨by rw [HE.out.1, HE.out.2]; rfl, HB.out⟩
              · have hcI : ¬ (2147483648 : Int) < (v : Int) := by omega
                have hvn := HV.out (by omega)
                have HE : Hid (nbV s = (v : Int) ∧ nbE s = 0) := Lib.hid (by
                  have h := nb_pos HNB.out (by rw [HA.out, HN.out, ← hvn]; exact hc) HA.out
                  rw [HA.out, HN.out, ← hvn] at h
                  exact h)
                clear hvn
                go_wp2_with fail
                go_ret2
                exact ⟨by rw [HE.out.1, HE.out.2]; rfl, HB.out⟩

      · have q2 : (x0 == 48) = false := by simp [e1]
        have HZ : Hid (¬ (bt s (sg s) = 48 ∧ (sg s = 1 ∨ 1 < s.size))) := Lib.hid (fun h => e1 (hx0.symm.trans (by rw [HA.out] at h; exact h.1)))
        clear hx0
        go_wp2_with fail
        clear g0 q1 q2 q5 e0 e1
        go_loopw [5, 6] (fun vv iv wr => ∃ (k : Nat) (v : Nat), 0 ≤ k ∧ k ≤ n ∧ v ≤ 21474836489 ∧ iv = .int .i64 k ∧ vv = .int .i64 v ∧ Hid (∀ j, 0 ≤ j → j < k → 48 ≤ bt s j ∧ bt s j ≤ 57) ∧ Hid (v ≤ 2147483648 → v = nv s 0 k) ∧ Hid (2147483648 < v → 2147483648 < nv s 0 k) ∧ Hid (Below w.heap.size w wr)) (fun _ iv _ => n - (intOf iv).toNat)
        case atStart => exact ⟨0, 0, Nat.le_refl _, by omega, by omega, rfl, rfl, Lib.hid (fun j h1 h2 => by omega), Lib.hid (fun _ => (nv_lo _ (Nat.le_refl _)).symm), Lib.hid (fun h => by omega), Lib.hid (Below.refl _ _)⟩
        case round =>
          obtain ⟨k, v, hk0, hk, hv, rfl, rfl, HD, HV, HG, HB⟩ := hrel
          by_cases hlt : k < n
          · have hltI : (k : Int) < (n : Int) := by omega
            have hks : k < s.size := by omega
            obtain ⟨x, hx⟩ : ∃ x, bt s k = x := ⟨_, rfl⟩
            have bx := bt_in s k
            rw [hx] at bx
            have gx := (bt_at hks).trans hx
            have hk9 : k ≤ 9223372036854775806 := by omega
            have W0 : IntKind.i64.wrap ((k : Int) + 1) = (k : Int) + 1 := IntWalk.i64_in _ (by omega)
            have HX := Lib.hid hx
            clear hx
            by_cases hd : 48 ≤ x ∧ x ≤ 57
            · have l1 : ¬ x < 48 := by omega
              have l2 : ¬ 57 < x := by omega
              have HDD : Hid (∀ j, 0 ≤ j → j < k + 1 → 48 ≤ bt s j ∧ bt s j ≤ 57) := Lib.hid (fun j h1 h2 => by
                rcases Nat.lt_or_ge j k with h3 | h3
                · exact HD.out j h1 h3
                · obtain rfl : j = k := by omega
                  rw [HX.out]; exact hd)
              have HNX : Hid (nv s 0 (k + 1) = nv s 0 k * 10 + (x - 48).toNat) := Lib.hid (by rw [nv_next hk0, HX.out])
              by_cases hc : v ≤ 2147483648
              · have hcI : (v : Int) ≤ 2147483648 := by omega
                obtain ⟨y, hy⟩ : ∃ y : Nat, (x - 48) = (y : Int) := ⟨(x - 48).toNat, by omega⟩
                have W1 : IntKind.i64.wrap ((v : Int) * 10) = (v : Int) * 10 := IntWalk.i64_in _ (by omega)
                have W2 : IntKind.u8.wrap (x - 48) = (y : Int) := by rw [hy]; exact IntWalk.u8_in _ (by omega)
                have W3 : IntKind.i64.wrap (y : Int) = (y : Int) := IntWalk.i64_in _ (by omega)
                have W4 : IntKind.i64.wrap ((v : Int) * 10 + (y : Int)) = ((v * 10 + y : Nat) : Int) := by rw [IntWalk.i64_in _ (by omega)]; omega
                have HV2 : Hid (v * 10 + y = nv s 0 (k + 1)) := Lib.hid (by rw [HNX.out, ← HV.out hc]; omega)
                have hvv : v * 10 + y ≤ 21474836489 := by omega
                clear hy hd
                go_wp2_with fail
                go_roundw
                case rel => exact ⟨k + 1, v * 10 + y, by omega, by omega, hvv, by go_num, rfl, HDD, Lib.hid (fun _ => HV2.out), Lib.hid (fun h => by rw [← HV2.out]; exact h), HB⟩
                case measure => simp [intOf]; omega
              · have hcI : ¬ (v : Int) ≤ 2147483648 := by omega
                clear hd
                go_wp2_with fail
                go_roundw
                case rel => exact ⟨k + 1, v, by omega, by omega, hv, by go_num, rfl, HDD, Lib.hid (fun h => absurd h hc), Lib.hid (fun h => by have := HG.out h; rw [HNX.out]; omega), HB⟩
                case measure => simp [intOf]; omega
            · have HE := Lib.hid (nb_bad (s := s) (fun h => hd (by rw [← HX.out]; exact h.2.2 k (by rw [HA.out]; omega) hks)))
              rcases (by omega : x < 48 ∨ (¬ x < 48 ∧ 57 < x)) with l1 | ⟨l1, l2⟩
              · clear hd
                go_wp2_with fail
                go_ret2
                exact ⟨by rw [HE.out.1, HE.out.2]; rfl, HB.out⟩
              · clear hd
                go_wp2_with fail
                go_ret2
                exact ⟨by rw [HE.out.1, HE.out.2]; rfl, HB.out⟩
          · have hltI : ¬ (k : Int) < (n : Int) := by omega
            obtain rfl : k = n := by omega
            have HNB : Hid (Nb s) := Lib.hid ⟨by rw [HA.out]; omega, HZ.out, fun j h1 h2 => HD.out j (by rw [← HA.out]; exact h1) (by omega)⟩
            by_cases hc : 2147483648 < v
            · have hcI : (2147483648 : Int) < (v : Int) := by omega
              have HE := Lib.hid (nb_big HNB.out (by rw [HA.out, HN.out]; exact HG.out hc))
              go_wp2_with fail
              go_ret2
              exact ⟨by rw [HE.out.1, HE.out.2]; rfl, HB.out⟩
            · have hcI : ¬ (2147483648 : Int) < (v : Int) := by omega
              have hvn := HV.out (by omega)
              have HE : Hid (nbV s = (v : Int) ∧ nbE s = 0) := Lib.hid (by
                have h := nb_pos HNB.out (by rw [HA.out, HN.out, ← hvn]; exact hc) HA.out
                rw [HA.out, HN.out, ← hvn] at h
                exact h)
              clear hvn
              go_wp2_with fail
              go_ret2
              exact ⟨by rw [HE.out.1, HE.out.2]; rfl, HB.out⟩

end Go.Proofs.YtcgcccieccicnaaDoor.Wk
