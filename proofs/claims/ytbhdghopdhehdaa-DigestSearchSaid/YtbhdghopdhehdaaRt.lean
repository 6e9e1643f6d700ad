/- The root of a tree, in the layer and in its reference; two equal lists. Conditions: the slices read as numbers; no more than 4096 of them. -/
import Derived.Test.YtbhdghopdhehdaaUp
import Derived.Test.YtbhdghopdhehdaaRmath
set_option linter.unusedSimpArgs false
set_option linter.unusedVariables false
namespace Go.Proofs.Ytbhdghopdhehdaa.Wk
open Go.RowKit
open Go.Proofs.Ytbhdghopdhehdaa.Mt
theorem same17 (A A' : Option Addr) (n c c' : Nat) (zs : List Int) (w : World) (h1 : Rk .u64 w w.heap.size A n zs) (h2 : Rk .u64 w w.heap.size A' n zs) :
    Calls Try.prog 17 #[.slice A n c, .slice A' n c'] w fun e w' => e = .returned (.bool true) ∧ Below w.heap.size w w' := by
  have hn := h1.2.1
  have H1 := Lib.hid h1
  have H2 := Lib.hid h2
  have e1 : ((n : Int) == (n : Int)) = true := by simp
  have e2 : ((n : Int) != (n : Int)) = false := by simp
  clear h1 h2
  go_enter Try.func17, Try.ntmps17
  go_wp2_with fail
  clear e1 e2
  go_loopw [5] (fun i wr => ∃ k : Nat, k ≤ n ∧ i = .int .i64 k ∧ Below w.heap.size w wr) (fun i _ => n - (intOf i).toNat)
  case atStart => exact ⟨0, Nat.zero_le _, rfl, Below.refl _ _⟩
  case round =>
    obtain ⟨k, hk, rfl, hb⟩ := hrel
    by_cases hlt : k < n
    · obtain ⟨b1, o1, rfl, _, d1⟩ := (H1.out.up hb).get hlt
      obtain ⟨b2, o2, rfl, _, d2⟩ := (H2.out.up hb).get hlt
      have hltI : (k : Int) < (n : Int) := by omega
      have e1 : (iat zs k == iat zs k) = true := by simp
      have e2 : (iat zs k != iat zs k) = false := by simp
      go_wp2_with fail
      go_quiet (fail)
      go_wp2_with fail
      go_roundw
      case rel => exact ⟨k + 1, by omega, by go_num, below_drewN hb _⟩
      case measure => simp [intOf]; omega
    · go_wp2_with fail
      go_ret
      exact ⟨rfl, hb⟩
theorem same28 (A A' : Option Addr) (n c c' : Nat) (zs : List Int) (w : World) (h1 : Rk .i64 w w.heap.size A n zs) (h2 : Rk .i64 w w.heap.size A' n zs) :
    Calls Try.prog 28 #[.slice A n c, .slice A' n c'] w fun e w' => e = .returned (.bool true) ∧ Below w.heap.size w w' := by
  have hn := h1.2.1
  have H1 := Lib.hid h1
  have H2 := Lib.hid h2
  have e1 : ((n : Int) == (n : Int)) = true := by simp
  have e2 : ((n : Int) != (n : Int)) = false := by simp
  clear h1 h2
  go_enter Try.func28, Try.ntmps28
  go_wp2_with fail
  clear e1 e2
  go_loopw [5] (fun i wr => ∃ k : Nat, k ≤ n ∧ i = .int .i64 k ∧ Below w.heap.size w wr) (fun i _ => n - (intOf i).toNat)
  case atStart => exact ⟨0, Nat.zero_le _, rfl, Below.refl _ _⟩
  case round =>
    obtain ⟨k, hk, rfl, hb⟩ := hrel
    by_cases hlt : k < n
    · obtain ⟨b1, o1, rfl, _, d1⟩ := (H1.out.up hb).get hlt
      obtain ⟨b2, o2, rfl, _, d2⟩ := (H2.out.up hb).get hlt
      have hltI : (k : Int) < (n : Int) := by omega
      have e1 : (iat zs k == iat zs k) = true := by simp
      have e2 : (iat zs k != iat zs k) = false := by simp
      go_wp2_with fail
      go_quiet (fail)
      go_wp2_with fail
      go_roundw
      case rel => exact ⟨k + 1, by omega, by go_num, below_drewN hb _⟩
      case measure => simp [intOf]; omega
    · go_wp2_with fail
      go_ret
      exact ⟨rfl, hb⟩
set_option maxHeartbeats 1000000 in
set_option maxRecDepth 100000 in
theorem root22 (A : Option Addr) (n c : Nat) (l : List Int) (w : World) (h : Rk .u64 w w.heap.size A n l) (hn4 : n ≤ 4096) :
    Calls Try.prog 22 #[.slice A n c] w fun e w' => e = .returned (.int .u64 (rootS l)) ∧ Below w.heap.size w w' := by
  have hn := h.2.1
  have HL := Lib.hid h.1
  have HR := Lib.hid h
  clear h
  by_cases h0 : n = 0
  · subst h0
    have HE : Hid (rootS l = 0) := Lib.hid (by rw [rootS, if_pos HL.out])
    go_enter Try.func22, Try.ntmps22
    go_wp2_with fail
    go_ret
    exact ⟨by rw [HE.out]; rfl, Below.refl _ _⟩
  · have h1 : 1 ≤ n := by omega
    have h0I : ((n : Int) == 0) = false := by simp; omega
    have h0J : ¬ (n : Int) = 0 := by omega
    go_enter Try.func22, Try.ntmps22
    have hht := ht_le n
    go_wp2_with (go_at_call 30; refine (height30 n hn _).mono ?_; rintro e w' ⟨rfl, rfl⟩)
    clear h0I h0J
    go_loopw [0, 9] (fun v i wr => ∃ (k : Nat) (A' : Option Addr) (c' m : Nat), k ≤ ht n ∧ i = .int .i64 k ∧ v = .slice A' m c' ∧ Hid (abn n k = m) ∧ Hid (Rk .u64 wr wr.heap.size A' m (upn l k)) ∧ Hid (Below w.heap.size w wr)) (fun _ i _ => ht n - (intOf i).toNat)
    case atStart => exact ⟨0, A, c, n, Nat.zero_le _, rfl, rfl, Lib.hid rfl, HR, Lib.hid (Below.refl _ _)⟩
    case round =>
      obtain ⟨k, A', c', m, hk, rfl, rfl, HM, HK, HB⟩ := hrel
      by_cases hlt : k < ht n
      · have hltI : (k : Int) < ((ht n : Nat) : Int) := by omega
        have hm4 : m ≤ 4096 := by have := HM.out; have := abn_le n k; omega
        have HM2 : Hid (abn n (k + 1) = ab m) := Lib.hid (by rw [abn_next, HM.out])
        go_wp2_with fail
        refine (up31 A' m c' (upn l k) _ HK.out hm4).mono ?_
        rintro e w2 ⟨A2, c2, rfl, ⟨hr, _⟩, hb⟩
        have HK2 : Hid (Rk .u64 w2 w2.heap.size A2 (ab m) (upn l (k + 1))) := Lib.hid hr
        have HB2 := Lib.hid (HB.out.trans (hb.mono HB.out.size))
        clear hr hb HK HB
        go_wp2_with fail
        go_roundw
        case rel => exact ⟨k + 1, A2, c2, ab m, by omega, by go_num, rfl, HM2, HK2, HB2⟩
        case measure => simp [intOf]; omega
      · have hltI : ¬ (k : Int) < ((ht n : Nat) : Int) := by omega
        have hm1 : m = 1 := by rw [← HM.out]; exact abn_one h1 hk (by omega)
        have hkk : k = ht n := by omega
        have HE := Lib.hid (root_some HL.out h1 hkk)
        subst hm1
        clear HM hkk
        obtain ⟨b, off, rfl, _, d1⟩ := HK.out.get (i := 0) (by omega)
        have d2 : wr.cell? ⟨b, off, none⟩ = some (.int .u64 (iat (upn l k) 0)) := d1
        rw [← HE.out] at d1 d2
        go_wp2_with fail
        go_ret
        exact ⟨rfl, HB.out⟩
set_option maxHeartbeats 1000000 in
set_option maxRecDepth 100000 in
theorem root23 (A : Option Addr) (n c : Nat) (l : List Int) (w : World) (h : Rk .u64 w w.heap.size A n l) (hn4 : n ≤ 4096) :
    Calls Try.prog 23 #[.slice A n c] w fun e w' => e = .returned (.int .u64 (rootS l)) ∧ Below w.heap.size w w' := by
  have hn := h.2.1
  have HL := Lib.hid h.1
  have HR := Lib.hid h
  clear h
  by_cases h0 : n = 0
  · subst h0
    have HE : Hid (rootS l = 0) := Lib.hid (by rw [rootS, if_pos HL.out])
    go_enter Try.func23, Try.ntmps23
    go_wp2_with fail
    go_ret
    exact ⟨by rw [HE.out]; rfl, Below.refl _ _⟩
  · have h1 : 1 ≤ n := by omega
    have h0I : ((n : Int) == 0) = false := by simp; omega
    have h0J : ¬ (n : Int) = 0 := by omega
    go_enter Try.func23, Try.ntmps23
    go_wp2_with fail
    clear h0I h0J
    go_loopw [3] (fun v wr => ∃ (k : Nat) (A' : Option Addr) (c' m : Nat), k ≤ ht n ∧ v = .slice A' m c' ∧ Hid (abn n k = m) ∧ Hid (Rk .u64 wr wr.heap.size A' m (upn l k)) ∧ Hid (Below w.heap.size w wr)) (fun v _ => lenv v)
    case atStart => exact ⟨0, A, c, n, Nat.zero_le _, rfl, Lib.hid rfl, HR, Lib.hid (Below.refl _ _)⟩
    case round =>
      obtain ⟨k, A', c', m, hk, rfl, HM, HK, HB⟩ := hrel
      by_cases hlt : 1 < m
      · have hltI : (1 : Int) < (m : Int) := by omega
        have hkk : k < ht n := by
          rcases Nat.lt_or_ge k (ht n) with h3 | h3
          · exact h3
          · have := abn_one h1 hk h3; have := HM.out; omega
        have hm4 : m ≤ 4096 := by have := HM.out; have := abn_le n k; omega
        have HM2 : Hid (abn n (k + 1) = ab m) := Lib.hid (by rw [abn_next, HM.out])
        have hab := ab_le hlt
        go_wp2_with fail
        refine (up32 A' m c' (upn l k) _ HK.out hm4).mono ?_
        rintro e w2 ⟨A2, c2, rfl, ⟨hr, _⟩, hb⟩
        have HK2 : Hid (Rk .u64 w2 w2.heap.size A2 (ab m) (upn l (k + 1))) := Lib.hid hr
        have HB2 := Lib.hid (HB.out.trans (hb.mono HB.out.size))
        clear hr hb HK HB
        go_wp2_with fail
        go_roundw
        case rel => exact ⟨k + 1, A2, c2, ab m, by omega, rfl, HM2, HK2, HB2⟩
        case measure => simp [lenv]; omega
      · have hltI : ¬ (1 : Int) < (m : Int) := by omega
        have hkk : k = ht n := abn_end hk (by rw [HM.out]; exact hlt)
        have hm1 : m = 1 := by rw [← HM.out]; exact abn_one h1 hk (by omega)
        have HE := Lib.hid (root_some HL.out h1 hkk)
        subst hm1
        clear HM hkk hlt hltI
        obtain ⟨b, off, rfl, _, d1⟩ := HK.out.get (i := 0) (by omega)
        have d2 : wr.cell? ⟨b, off, none⟩ = some (.int .u64 (iat (upn l k) 0)) := d1
        rw [← HE.out] at d1 d2
        go_wp2_with fail
        go_ret
        exact ⟨rfl, HB.out⟩
end Go.Proofs.Ytbhdghopdhehdaa.Wk
