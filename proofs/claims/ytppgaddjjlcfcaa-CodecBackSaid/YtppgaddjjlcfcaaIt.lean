/- How many frames are intact, in the layer and in the reference. Conditions: the bytes read as the list; at most 100000 bytes. -/
import Derived.Test.YtppgaddjjlcfcaaFq
set_option linter.unusedSimpArgs false
set_option linter.unusedVariables false
namespace Go.Proofs.Ytppgaddjjlcfcaa.Mt
open Go
/-- where the k-th frame begins -/
def sq (zs : List Int) (n : Nat) : Nat → Nat
  | 0 => 0
  | k + 1 => (frN zs n ((sq zs n k : Nat) : Int)).toNat
def Fg (zs : List Int) (n k : Nat) : Prop := ∀ j, j < k → frE zs n ((sq zs n j : Nat) : Int) = 0
theorem fr_bound {zs : List Int} {n a : Nat} (h : frE zs n (a : Int) = 0) : ∃ x : Nat, frN zs n (a : Int) = (x : Int) ∧ a < x ∧ x ≤ n := by
  by_cases h1 : (a : Int) < 0 ∨ (n : Int) < (a : Int)
  · rw [fr_range h1] at h; cases h
  · by_cases h2 : a = n
    · subst h2; rw [fr_end] at h; cases h
    · have hlt : a < n := by omega
      by_cases h3 : teE zs n ((a : Int) + 1) = 0
      · obtain ⟨x, hx, hxn, hax⟩ := te_bound (zs := zs) (n := n) (a := a + 1) (by rw [show (((a + 1 : Nat) : Nat) : Int) = (a : Int) + 1 by omega]; exact h3)
        rw [show (((a + 1 : Nat) : Nat) : Int) = (a : Int) + 1 by omega] at hx
        by_cases h4 : (n : Int) - (x : Int) < 4
        · rw [fr_short hlt h3 hx h4] at h; cases h
        · refine ⟨x + 4, ?_, by omega, by omega⟩
          unfold frN
          rw [if_pos h, hx]
          rfl
      · rw [fr_text hlt h3] at h; exact absurd h h3
theorem sq_in {zs : List Int} {n : Nat} : ∀ k, Fg zs n k → k ≤ sq zs n k ∧ sq zs n k ≤ n := by
  intro k
  induction k with
  | zero => intro _; exact ⟨Nat.zero_le _, Nat.zero_le _⟩
  | succ k ih =>
    intro h
    obtain ⟨h1, h2⟩ := ih (fun j hj => h j (by omega))
    obtain ⟨x, hx, h3, h4⟩ := fr_bound (h k (by omega))
    rw [sq, hx, Int.toNat_natCast]
    omega
theorem Fg.next {zs : List Int} {n k : Nat} (h : Fg zs n k) (h1 : frE zs n ((sq zs n k : Nat) : Int) = 0) : Fg zs n (k + 1) := by
  intro j hj
  rcases Nat.lt_or_ge j k with h2 | h2
  · exact h j h2
  · obtain rfl : j = k := by omega
    exact h1
theorem Fg.one {zs : List Int} {n k m : Nat} (h1 : Fg zs n k) (h2 : frE zs n ((sq zs n k : Nat) : Int) ≠ 0) (h3 : Fg zs n m) (h4 : frE zs n ((sq zs n m : Nat) : Int) ≠ 0) : k = m := by
  rcases Nat.lt_trichotomy k m with h | h | h
  · exact absurd (h3 k h) h2
  · exact h
  · exact absurd (h1 m h) h4
end Go.Proofs.Ytppgaddjjlcfcaa.Mt
namespace Go.Proofs.Ytppgaddjjlcfcaa.Wk
open Go.RowKit
open Go.Proofs.Ytppgaddjjlcfcaa.Mt
def ItR (zs : List Int) (n : Nat) (w : World) (e : Ending) (w' : World) : Prop := ∃ k : Nat, e = .returned (.tuple #[.int .i64 (k : Int), .int .i64 ((sq zs n k : Nat) : Int)]) ∧ Fg zs n k ∧ frE zs n ((sq zs n k : Nat) : Int) ≠ 0 ∧ Below w.heap.size w w'
set_option maxHeartbeats 4000000 in
set_option maxRecDepth 100000 in
theorem intact29 (A : Option Addr) (n c : Nat) (zs : List Int) (w : World) (h : Rk .u8 w w.heap.size A n zs) (hn : n ≤ 100000) (hc : n ≤ c) (hcc : c ≤ 9223372036854775807) : Calls Try.prog 29 #[.slice A n c] w (ItR zs n w) := by
  have HZ := Lib.hid h
  clear h
  go_enter Try.func29, Try.ntmps29
  go_wp2_with fail
  go_loopw [4, 5, 6, 7, 8, 9] (fun nv av _ _ _ _ wr => ∃ k a : Nat, nv = .int .i64 k ∧ av = .int .i64 a ∧ Hid (a = sq zs n k) ∧ Hid (Fg zs n k) ∧ Hid (Below w.heap.size w wr)) (fun nv _ _ _ _ _ _ => n + 1 - (intOf nv).toNat)
  case atStart => exact ⟨0, 0, rfl, rfl, Lib.hid rfl, Lib.hid (fun j hj => by omega), Lib.hid (Below.refl _ _)⟩
  case round =>
    obtain ⟨k, a, rfl, rfl, HA, HFG, HB⟩ := hrel
    obtain ⟨hk1, hk2⟩ := sq_in k HFG.out
    rw [← HA.out] at hk1 hk2
    by_cases hlt : a < n
    · have hltI : (a : Int) < (n : Int) := by omega
      have HZ1 := Lib.hid (HZ.out.up HB.out)
      have W1 : IntKind.i64.wrap ((k : Int) + 1) = (k : Int) + 1 := IntWalk.i64_in _ (by omega)
      go_wp2_with fail
      refine (frame27 A n c (a : Int) zs wr HZ1.out (by omega) hn hc hcc).mono ?_
      rintro e w1 ⟨A', c', rfl, _, hb⟩
      have HB1 := Lib.hid (HB.out.trans (hb.mono HB.out.size))
      clear hb
      by_cases hE : frE zs n (a : Int) = 0
      · obtain ⟨x, hx, hax, hxn⟩ := fr_bound hE
        have HS : Hid (x = sq zs n (k + 1)) := Lib.hid (by rw [sq, ← HA.out, hx, Int.toNat_natCast])
        have HF2 : Hid (Fg zs n (k + 1)) := Lib.hid (HFG.out.next (by rw [← HA.out]; exact hE))
        rw [hE, hx]
        clear hE hx
        go_wp2_with fail
        go_roundw
        case rel => exact ⟨k + 1, x, by go_num, rfl, HS, HF2, HB1⟩
        case measure => simp [intOf]; omega
      · obtain ⟨er, her⟩ : ∃ er, frE zs n (a : Int) = er := ⟨_, rfl⟩
        rw [her] at hE ⊢
        have HER := Lib.hid her
        have HNE := Lib.hid hE
        have e1 : (er != 0) = true := by simp [hE]
        clear her hE
        go_wp2_with fail
        go_ret2
        exact ⟨k, by rw [← HA.out]; rfl, HFG.out, by rw [← HA.out, HER.out]; exact HNE.out, HB1.out⟩
    · have hltI : ¬ (a : Int) < (n : Int) := by omega
      have HE : Hid (frE zs n ((sq zs n k : Nat) : Int) ≠ 0) := Lib.hid (by rw [← HA.out, show a = n by omega, fr_end]; decide)
      go_wp2_with fail
      go_ret2
      exact ⟨k, by rw [← HA.out]; rfl, HFG.out, HE.out, HB.out⟩
end Go.Proofs.Ytppgaddjjlcfcaa.Wk
