/- The contracts of class.Of, Range, Reconcile and of their references, over any rules. Conditions: the slice reads as the list of rules. -/
import Derived.Test.YtmclbcfcbocnhaaProg
import Derived.Test.YtmclbcfcbocnhaaMath
import Derived.WalkKit
import Derived.OwnWalk
import Derived.Lib.Hide
import Derived.Outline
import Derived.LoopTactic
import Derived.Below
import Derived.Laws.OwnMore
import Derived.Deep.QuietTactic
import Derived.BigQuiet
import Derived.WalkSmall
set_option linter.unusedSimpArgs false
set_option linter.unusedVariables false
namespace Go.Proofs.Ytmclbcfcbocnhaa.Wk
open Go.RowKit
open Go.Proofs.Ytmclbcfcbocnhaa.Mt

/-- a slice value of n rules reads as the list rs, in blocks below B -/
def Rl (w : World) (B : Nat) (A : Option Addr) (n : Nat) (rs : List Rule) : Prop :=
  rs.length = n ∧ n ≤ 9223372036854775807 ∧ (0 < n → ∃ b off, A = some ⟨b, off, none⟩ ∧ b < B ∧ ∀ i, i < n →
    w.cell? ⟨b, off + i * 3, none⟩ = some (.int .i64 (at_ rs i).1) ∧ w.cell? ⟨b, off + i * 3 + 1, none⟩ = some (.int .i64 (at_ rs i).2.1) ∧ w.cell? ⟨b, off + i * 3 + 2, none⟩ = some (.int .i64 (at_ rs i).2.2))
theorem Rl.below {w w' : World} {B B' : Nat} {A : Option Addr} {n : Nat} {rs : List Rule} (h : Rl w B A n rs) (hb : Below B' w w') (hB : B ≤ B') : Rl w' B A n rs := by
  refine ⟨h.1, h.2.1, fun hn => ?_⟩
  obtain ⟨b, off, e, hlt, hc⟩ := h.2.2 hn
  refine ⟨b, off, e, hlt, fun i hi => ?_⟩
  obtain ⟨h1, h2, h3⟩ := hc i hi
  exact ⟨(hb.cell (p := ⟨b, _, none⟩) (by show b < B'; omega)).trans h1, (hb.cell (p := ⟨b, _, none⟩) (by show b < B'; omega)).trans h2, (hb.cell (p := ⟨b, _, none⟩) (by show b < B'; omega)).trans h3⟩

theorem ret2 {a b a' b' : Value} (h1 : a = a') (h2 : b = b') : Ending.returned (.tuple #[a, b]) = .returned (.tuple #[a', b']) := by rw [h1, h2]
theorem ret3 {a b c a' b' c' : Value} (h1 : a = a') (h2 : b = b') (h3 : c = c') : Ending.returned (.tuple #[a, b, c]) = .returned (.tuple #[a', b', c']) := by rw [h1, h2, h3]

theorem known_any (c : Int) (w : World) :
    Calls Try.prog 20 #[.int .i64 c] w fun e w' => e = .returned (.bool (decide (1 ≤ c ∧ c ≤ 9))) ∧ w = w' := by
  by_cases h1 : 1 ≤ c <;> by_cases h2 : c ≤ 9
  all_goals
    go_enter Try.func20, Try.ntmps20
    go_wp2
    go_ret
    exact ⟨by simp [h1, h2], rfl⟩
theorem Known_any (c : Int) (w : World) :
    Calls Try.prog 21 #[.int .i64 c] w fun e w' => e = .returned (.bool (decide (1 ≤ c ∧ c ≤ 9))) ∧ w = w' := by
  by_cases h1 : 1 ≤ c <;> by_cases h2 : c ≤ 9
  all_goals
    go_enter Try.func21, Try.ntmps21
    go_wp2
    go_ret
    exact ⟨by simp [h1, h2], rfl⟩

theorem of_any (A : Option Addr) (n c : Nat) (x : Int) (rs : List Rule) (w : World) (h : Rl w w.heap.size A n rs) :
    Calls Try.prog 12 #[.slice A n c, .int .i64 x] w fun e w' => e = .returned (.tuple #[.int .i64 (ofS x rs).1, .int .i64 (ofS x rs).2]) ∧ Below w.heap.size w w' := by
  have hn := h.2.1
  have HL := Lib.hid h.1
  have HR := Lib.hid h
  clear h
  go_enter Try.func12, Try.ntmps12
  go_wp2
  go_loopw [10] (fun i wr => ∃ k : Nat, k ≤ n ∧ i = .int .i64 k ∧ Below w.heap.size w wr ∧ Hid (ofS x (rs.drop k) = ofS x rs)) (fun i _ => n - (intOf i).toNat)
  case atStart => exact ⟨0, Nat.zero_le _, rfl, Below.refl _ _, Lib.hid rfl⟩
  case round =>
    obtain ⟨k, hk, rfl, hb, H⟩ := hrel
    by_cases hlt : k < n
    · obtain ⟨b, off, rfl, hbB, hc⟩ := (HR.out.below hb (Nat.le_refl _)).2.2 (by omega)
      obtain ⟨c1, c2, c3⟩ := hc k hlt
      clear hc
      have hlen : k < rs.length := by rw [HL.out]; omega
      by_cases g1 : (at_ rs k).1 ≤ x <;> by_cases g2 : x ≤ (at_ rs k).2.1
      · have hh := of_hit (x := x) hlen ⟨g1, g2⟩
        rw [H.out] at hh
        have HH := Lib.hid hh
        clear hh
        go_wp2
        go_ret2
        exact ⟨by rw [HH.out]; rfl, hb.alloc hb.size _⟩
      all_goals
        have hh := of_step (x := x) hlen (by omega)
        rw [H.out] at hh
        have HH := Lib.hid hh
        clear hh
        go_wp2
        go_roundw
        case rel => exact ⟨k + 1, by omega, by go_num, hb.alloc hb.size _, Lib.hid HH.out.symm⟩
        case measure => simp [intOf]; omega
    · have hh := of_end (x := x) (rs := rs) (k := k) (by rw [HL.out]; omega)
      rw [H.out] at hh
      have HH := Lib.hid hh
      clear hh
      go_wp2
      go_ret2
      exact ⟨by rw [HH.out]; rfl, hb⟩

theorem Of_any (A : Option Addr) (n c : Nat) (x : Int) (rs : List Rule) (w : World) (h : Rl w w.heap.size A n rs) :
    Calls Try.prog 13 #[.slice A n c, .int .i64 x] w fun e w' => e = .returned (.tuple #[.int .i64 (ofS x rs).1, .int .i64 (ofS x rs).2]) ∧ Below w.heap.size w w' := by
  have hn := h.2.1
  have HL := Lib.hid h.1
  have HR := Lib.hid h
  clear h
  go_enter Try.func13, Try.ntmps13
  go_wp2
  go_loopw [6] (fun i wr => ∃ k : Nat, k ≤ n ∧ i = .int .i64 k ∧ Below w.heap.size w wr ∧ Hid (ofS x (rs.drop k) = ofS x rs)) (fun i _ => n - (intOf i).toNat)
  case atStart => exact ⟨0, Nat.zero_le _, rfl, Below.refl _ _, Lib.hid rfl⟩
  case round =>
    obtain ⟨k, hk, rfl, hb, H⟩ := hrel
    by_cases hlt : k < n
    · obtain ⟨b, off, rfl, hbB, hc⟩ := (HR.out.below hb (Nat.le_refl _)).2.2 (by omega)
      obtain ⟨c1, c2, c3⟩ := hc k hlt
      clear hc
      have hlen : k < rs.length := by rw [HL.out]; omega
      by_cases g1 : (at_ rs k).1 ≤ x <;> by_cases g2 : x ≤ (at_ rs k).2.1
      · have hh := of_hit (x := x) hlen ⟨g1, g2⟩
        rw [H.out] at hh
        have HH := Lib.hid hh
        clear hh
        go_wp2
        go_ret2
        exact ⟨by rw [HH.out]; rfl, hb⟩
      all_goals
        have hh := of_step (x := x) hlen (by omega)
        rw [H.out] at hh
        have HH := Lib.hid hh
        clear hh
        go_wp2
        go_roundw
        case rel => exact ⟨k + 1, by omega, by go_num, hb, Lib.hid HH.out.symm⟩
        case measure => simp [intOf]; omega
    · have hh := of_end (x := x) (rs := rs) (k := k) (by rw [HL.out]; omega)
      rw [H.out] at hh
      have HH := Lib.hid hh
      clear hh
      go_wp2
      go_ret2
      exact ⟨by rw [HH.out]; rfl, hb⟩

theorem range_any (A : Option Addr) (n c : Nat) (x : Int) (rs : List Rule) (w : World) (h : Rl w w.heap.size A n rs) :
    Calls Try.prog 14 #[.slice A n c, .int .i64 x] w fun e w' => e = .returned (.tuple #[.int .i64 (raS x rs).1, .int .i64 (raS x rs).2.1, .bool (raS x rs).2.2]) ∧ Below w.heap.size w w' := by
  have hn := h.2.1
  have HL := Lib.hid h.1
  have HR := Lib.hid h
  clear h
  go_enter Try.func14, Try.ntmps14
  go_wp2
  go_loopw [11] (fun i wr => ∃ k : Nat, k ≤ n ∧ i = .int .i64 k ∧ Below w.heap.size w wr ∧ Hid (raS x (rs.drop k) = raS x rs)) (fun i _ => n - (intOf i).toNat)
  case atStart => exact ⟨0, Nat.zero_le _, rfl, Below.refl _ _, Lib.hid rfl⟩
  case round =>
    obtain ⟨k, hk, rfl, hb, H⟩ := hrel
    by_cases hlt : k < n
    · obtain ⟨b, off, rfl, hbB, hc⟩ := (HR.out.below hb (Nat.le_refl _)).2.2 (by omega)
      obtain ⟨c1, c2, c3⟩ := hc k hlt
      clear hc
      have hlen : k < rs.length := by rw [HL.out]; omega
      by_cases g1 : (at_ rs k).2.2 = x
      · have hh := ra_hit (x := x) hlen g1
        rw [H.out] at hh
        have HH := Lib.hid hh
        have gg : ((at_ rs k).2.2 == x) = true := by simpa using g1
        clear hh g1
        go_wp2
        go_quiet (fail)
        go_wp2
        go_ret3
        exact ⟨by rw [HH.out]; rfl, below_drewN (hb.alloc hb.size _) _⟩
      · have hh := ra_step (x := x) hlen g1
        rw [H.out] at hh
        have HH := Lib.hid hh
        have gg : ((at_ rs k).2.2 == x) = false := by simpa using g1
        clear hh g1
        go_wp2
        go_roundw
        case rel => exact ⟨k + 1, by omega, by go_num, hb.alloc hb.size _, Lib.hid HH.out.symm⟩
        case measure => simp [intOf]; omega
    · have hh := ra_end (x := x) (rs := rs) (k := k) (by rw [HL.out]; omega)
      rw [H.out] at hh
      have HH := Lib.hid hh
      clear hh
      go_wp2
      go_ret3
      exact ⟨by rw [HH.out]; rfl, hb⟩

theorem Range_any (A : Option Addr) (n c : Nat) (x : Int) (rs : List Rule) (w : World) (h : Rl w w.heap.size A n rs) :
    Calls Try.prog 15 #[.slice A n c, .int .i64 x] w fun e w' => e = .returned (.tuple #[.int .i64 (raS x rs).1, .int .i64 (raS x rs).2.1, .bool (raS x rs).2.2]) ∧ Below w.heap.size w w' := by
  have hn := h.2.1
  have HL := Lib.hid h.1
  have HR := Lib.hid h
  clear h
  go_enter Try.func15, Try.ntmps15
  go_wp2
  go_loopw [7] (fun i wr => ∃ k : Nat, k ≤ n ∧ i = .int .i64 k ∧ Below w.heap.size w wr ∧ Hid (raS x (rs.drop k) = raS x rs)) (fun i _ => n - (intOf i).toNat)
  case atStart => exact ⟨0, Nat.zero_le _, rfl, Below.refl _ _, Lib.hid rfl⟩
  case round =>
    obtain ⟨k, hk, rfl, hb, H⟩ := hrel
    by_cases hlt : k < n
    · obtain ⟨b, off, rfl, hbB, hc⟩ := (HR.out.below hb (Nat.le_refl _)).2.2 (by omega)
      obtain ⟨c1, c2, c3⟩ := hc k hlt
      clear hc
      have hlen : k < rs.length := by rw [HL.out]; omega
      by_cases g1 : (at_ rs k).2.2 = x
      · have hh := ra_hit (x := x) hlen g1
        rw [H.out] at hh
        have HH := Lib.hid hh
        have gg : ((at_ rs k).2.2 == x) = true := by simpa using g1
        clear hh g1
        go_wp2
        go_quiet (fail)
        go_wp2
        go_ret3
        exact ⟨by rw [HH.out]; rfl, below_drewN hb _⟩
      · have hh := ra_step (x := x) hlen g1
        rw [H.out] at hh
        have HH := Lib.hid hh
        have gg : ((at_ rs k).2.2 == x) = false := by simpa using g1
        clear hh g1
        go_wp2
        go_roundw
        case rel => exact ⟨k + 1, by omega, by go_num, hb, Lib.hid HH.out.symm⟩
        case measure => simp [intOf]; omega
    · have hh := ra_end (x := x) (rs := rs) (k := k) (by rw [HL.out]; omega)
      rw [H.out] at hh
      have HH := Lib.hid hh
      clear hh
      go_wp2
      go_ret3
      exact ⟨by rw [HH.out]; rfl, hb⟩

theorem reconcile_any (d m : Int) (w : World) :
    Calls Try.prog 16 #[.int .i64 d, .int .i64 m] w fun e w' => e = .returned (.tuple #[.int .i64 (reS d m).1, .bool (reS d m).2]) ∧ w = w' := by
  have known_yes : ∀ (c : Int) (w : World), 1 ≤ c ∧ c ≤ 9 → Calls Try.prog 20 #[.int .i64 c] w fun e w' => e = .returned (.bool true) ∧ w = w' := fun c w h => (known_any c w).mono fun e w' ⟨h1, h2⟩ => ⟨by rw [h1, decide_eq_true h], h2⟩
  have known_no : ∀ (c : Int) (w : World), ¬ (1 ≤ c ∧ c ≤ 9) → Calls Try.prog 20 #[.int .i64 c] w fun e w' => e = .returned (.bool false) ∧ w = w' := fun c w h => (known_any c w).mono fun e w' ⟨h1, h2⟩ => ⟨by rw [h1, decide_eq_false h], h2⟩
  have KY := Lib.hid known_yes
  have KN := Lib.hid known_no
  clear known_yes known_no
  by_cases hm : 1 ≤ m ∧ m ≤ 9
  · by_cases hd : 1 ≤ d ∧ d ≤ 9
    · by_cases he : d = m
      · subst he
        have hf : Hid (reS d d = (d, true)) := Lib.hid (by simp [reS, hd])
        go_enter Try.func16, Try.ntmps16
        go_wp2_with (go_at_call 20; refine (KY.out _ _ hd).mono ?_; rintro e w' ⟨rfl, rfl⟩)
        go_ret2
        exact ⟨by rw [hf.out]; rfl, rfl⟩
      · have hf : Hid (reS d m = (m, false)) := Lib.hid (by simp [reS, hd, hm, he])
        have gg : (d == m) = false := by simpa using he
        clear he
        go_enter Try.func16, Try.ntmps16
        go_wp2_with (go_at_call 20; refine (KY.out _ _ (by assumption)).mono ?_; rintro e w' ⟨rfl, rfl⟩)
        go_ret2
        exact ⟨by rw [hf.out]; rfl, rfl⟩
    · have he : ¬ d = m := by omega
      have hf : Hid (reS d m = (m, true)) := Lib.hid (by simp only [reS, hm]; simp [hd])
      have gg : (d == m) = false := by simpa using he
      clear he
      go_enter Try.func16, Try.ntmps16
      go_wp2_with (go_at_call 20; (first | refine (KY.out _ _ (by assumption)).mono ?_ | refine (KN.out _ _ (by assumption)).mono ?_); rintro e w' ⟨rfl, rfl⟩)
      go_ret2
      exact ⟨by rw [hf.out]; rfl, rfl⟩
  · by_cases hd : 1 ≤ d ∧ d ≤ 9
    · have hf : Hid (reS d m = (d, false)) := Lib.hid (by simp only [reS, hm, hd]; simp)
      go_enter Try.func16, Try.ntmps16
      go_wp2_with (go_at_call 20; (first | refine (KY.out _ _ (by assumption)).mono ?_ | refine (KN.out _ _ (by assumption)).mono ?_); rintro e w' ⟨rfl, rfl⟩)
      go_ret2
      exact ⟨by rw [hf.out]; rfl, rfl⟩
    · have hf : Hid (reS d m = (0, false)) := Lib.hid (by simp only [reS, hm, hd]; simp)
      go_enter Try.func16, Try.ntmps16
      go_wp2_with (go_at_call 20; (first | refine (KY.out _ _ (by assumption)).mono ?_ | refine (KN.out _ _ (by assumption)).mono ?_); rintro e w' ⟨rfl, rfl⟩)
      go_ret2
      exact ⟨by rw [hf.out]; rfl, rfl⟩
end Go.Proofs.Ytmclbcfcbocnhaa.Wk
