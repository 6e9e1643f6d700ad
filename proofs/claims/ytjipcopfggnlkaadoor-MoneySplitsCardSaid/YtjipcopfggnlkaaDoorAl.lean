/- The chapter's examples, walked. Conditions: the table reads as it is laid. -/
import Derived.Test.YtjipcopfggnlkaaDoorSp
set_option linter.unusedSimpArgs false
set_option linter.unusedVariables false
namespace Go.Proofs.YtjipcopfggnlkaaDoor.Mt
open Go
theorem v1 : raE 100 1 3 2 = 0 ∧ raV 100 1 3 2 = 34 := by decide +kernel
theorem v2 : raE (-7) 1 2 3 = 0 ∧ raV (-7) 1 2 3 = -4 := by decide +kernel
theorem v3 : raE 1125899906842624 4611686018427387904 4611686018427387904 1 = 0 ∧ raV 1125899906842624 4611686018427387904 4611686018427387904 1 = 1125899906842624 := by decide +kernel
theorem v4 : raE 1125899906842624 2 1 1 = 13 ∧ raV 1125899906842624 2 1 1 = 0 := by decide +kernel
theorem v5 : paE [45, 49, 46, 50, 48] = 0 ∧ paV [45, 49, 46, 50, 48] = -120 := by decide +kernel
theorem v6 : paE [45, 48, 46, 48, 48] = 5 ∧ paV [45, 48, 46, 48, 48] = 0 := by decide +kernel
theorem v7 : smE [1125899906842624, 1, -1] = 0 ∧ smV [1125899906842624, 1, -1] = 1125899906842624 := by decide +kernel
theorem v8 : strd (shL 5) = ⟨#[48, 46, 48, 53]⟩ := by
  have e : shL 5 = [48, 46, 48, 53] := by
    unfold shL sg
    rw [show (5 : Int).natAbs / 100 = 0 from rfl, Lib.decDigits_one (by decide)]
    decide
  rw [e]
  rfl
theorem w_ex : wOk [1, 2, 4] := by
  intro i hi
  have : i < 3 := hi
  rcases (by omega : i = 0 ∨ i = 1 ∨ i = 2) with rfl | rfl | rfl <;> decide
theorem sp_ex : spE 10 [1, 2, 4] = 0 := sp_good (by decide) (by decide) w_ex (by decide)
theorem sp_ex2 {t S : Nat} {o : List Nat} (h : SpOk 10 [1, 2, 4] t S) (ho : OrdOk (rf t S [1, 2, 4]) 3 o) : bump (qf t S [1, 2, 4]) 3 o (t - sm (qf t S [1, 2, 4]) 3) = [1, 3, 6] := by
  have h1 : t = 10 := by have := h.tt; omega
  have h2 : S = 7 := by rw [h.ss]; decide
  subst h1 h2
  have h3 : OrdOk (rf 10 7 [1, 2, 4]) 3 [1, 2, 0] := ⟨by decide, by
    refine List.Pairwise.cons ?_ (List.Pairwise.cons ?_ (List.Pairwise.cons ?_ List.Pairwise.nil))
    · intro a ha
      have : a = 2 ∨ a = 0 := by simpa using ha
      rcases this with rfl | rfl <;> (unfold rlt; decide)
    · intro a ha
      have : a = 0 := by simpa using ha
      subst this
      unfold rlt
      decide
    · intro a ha
      cases ha⟩
  rw [ho.uniq h3]
  decide
end Go.Proofs.YtjipcopfggnlkaaDoor.Mt
namespace Go.Proofs.YtjipcopfggnlkaaDoor.Wk
open Go.RowKit
open Go.Proofs.YtjipcopfggnlkaaDoor.Mt
set_option maxHeartbeats 1000000 in
theorem same22 (A A' : Option Addr) (n c c' : Nat) (zs : List Int) (w : World) (h1 : Rk .i64 w w.heap.size A n zs) (h2 : Rk .i64 w w.heap.size A' n zs) : Calls Tryd.prog 22 #[.slice A n c, .slice A' n c'] w fun e w' => e = .returned (.bool true) ∧ Below w.heap.size w w' := by
  have H1 := Lib.hid h1
  have H2 := Lib.hid h2
  have hn9 := h1.2.1
  clear h1 h2
  go_enter Tryd.func22, Tryd.ntmps22
  go_wp2_with fail
  go_loopw [5, 13] (fun _ iv wr => ∃ i : Nat, i ≤ n ∧ iv = .int .i64 i ∧ Hid (Below w.heap.size w wr)) (fun _ iv _ => n - (intOf iv).toNat)
  case atStart => exact ⟨0, by omega, rfl, Lib.hid (Below.refl _ _)⟩
  case round =>
    obtain ⟨i, hi, rfl, HB⟩ := hrel
    by_cases hlt : i < n
    · have hltI : (i : Int) < (n : Int) := by omega
      have W1 : IntKind.i64.wrap ((i : Int) + 1) = (i : Int) + 1 := IntWalk.i64_in _ (by omega)
      have K1 := H1.out.up HB.out
      have K2 := H2.out.up HB.out
      obtain ⟨b, off, rfl, hb1, hc1⟩ := K1.get hlt
      obtain ⟨b', off', rfl, hb2, hc2⟩ := K2.get hlt
      obtain ⟨x, hx⟩ : ∃ x, iat zs i = x := ⟨_, rfl⟩
      rw [hx] at hc1 hc2
      have e1 : (x != x) = false := by simp
      clear hx K1 K2
      go_wp2_with fail
      go_quiet (fail)
      go_wp2_with fail
      go_roundw
      case rel => exact ⟨i + 1, by omega, by go_num, Lib.hid (below_drewN HB.out nq)⟩
      case measure => simp [intOf]; omega
    · have hltI : ¬ (i : Int) < (n : Int) := by omega
      go_wp2_with fail
      go_ret
      exact ⟨rfl, HB.out⟩
theorem rk_three (w : World) (a b d : Int) (ha : In64 a) (hb : In64 b) (hd : In64 d) : Rk .i64 (w.alloc (.cells #[.int .i64 a, .int .i64 b, .int .i64 d] 3)) (w.alloc (.cells #[.int .i64 a, .int .i64 b, .int .i64 d] 3)).heap.size (some ⟨w.heap.size, 0, none⟩) 3 [a, b, d] :=
  Rk.block (zs := [a, b, d]) (t := 3) (by have := Bx.new w 3 #[.int .i64 a, .int .i64 b, .int .i64 d]; simpa [vk] using this) (by simp) (fun i => by
    match i with
    | 0 => exact i64_w ha
    | 1 => exact i64_w hb
    | 2 => exact i64_w hd
    | (k + 3) => simp [iat, Lit.wf, IntKind.min, IntKind.max, IntKind.signed, IntKind.bits])
theorem in_small {x : Int} (h : -4611686018427387904 ≤ x ∧ x ≤ 4611686018427387904) : In64 x := by unfold In64; omega
set_option maxHeartbeats 8000000 in
set_option maxRecDepth 100000 in
theorem awake11 (w : World) (ht : Tb w) : Calls Tryd.prog 11 #[] w fun e w' => e = .returned (.bool true) ∧ Below w.heap.size w w' := by
  have HT := Lib.hid ht
  clear ht
  go_enter Tryd.func11, Tryd.ntmps11
  go_wp2_with fail
  refine (ratio18 100 1 3 2 0 34 w (in_small (by decide)) (in_small (by decide)) (in_small (by decide)) v1.1 v1.2).mono ?_
  rintro e w1 ⟨rfl, hb⟩
  have HB := Lib.hid hb
  clear hb
  go_wp2_with fail
  refine (ratio18 (-7) 1 2 3 0 (-4) w1 (in_small (by decide)) (in_small (by decide)) (in_small (by decide)) v2.1 v2.2).mono ?_
  rintro e w2 ⟨rfl, hb⟩
  replace HB := Lib.hid (upB HB.out hb)
  clear hb
  go_wp2_with fail
  refine (ratio18 1125899906842624 4611686018427387904 4611686018427387904 1 0 1125899906842624 w2 (in_small (by decide)) (in_small (by decide)) (in_small (by decide)) v3.1 v3.2).mono ?_
  rintro e w3 ⟨rfl, hb⟩
  replace HB := Lib.hid (upB HB.out hb)
  clear hb
  go_wp2_with fail
  refine (ratio18 1125899906842624 2 1 1 13 0 w3 (in_small (by decide)) (in_small (by decide)) (in_small (by decide)) v4.1 v4.2).mono ?_
  rintro e w4 ⟨rfl, hb⟩
  replace HB := Lib.hid (upB HB.out hb)
  clear hb
  go_wp2_with fail
  refine (split20 10 _ 3 3 [1, 2, 4] _ (rk_three w4 1 2 4 (in_small (by decide)) (in_small (by decide)) (in_small (by decide))) (in_small (by decide))).mono ?_
  rintro e w5 ⟨hb, ⟨hne, _⟩ | ⟨_, t, S, o, g, hsp, hord, rfl, hrk⟩⟩
  · exact absurd sp_ex hne
  · rw [sp_ex2 hsp hord] at hrk
    have HR := Lib.hid hrk
    replace HB := Lib.hid (upB (upB HB.out (b1 w4 _)) hb)
    clear hb hsp hord hrk
    go_wp2_with fail
    refine (parse23 ⟨#[45, 49, 46, 50, 48]⟩ [45, 49, 46, 50, 48] w5 (by decide) rfl).mono ?_
    rintro e w6 ⟨rfl, hb⟩
    rw [v5.1, v5.2]
    replace HB := Lib.hid (upB HB.out hb)
    replace HR := Lib.hid (HR.out.up hb)
    clear hb
    go_wp2_with fail
    refine (parse23 ⟨#[45, 48, 46, 48, 48]⟩ [45, 48, 46, 48, 48] w6 (by decide) rfl).mono ?_
    rintro e w7 ⟨rfl, hb⟩
    rw [v6.1, v6.2]
    replace HB := Lib.hid (upB HB.out hb)
    replace HR := Lib.hid (HR.out.up hb)
    clear hb
    go_wp2_with fail
    refine (sum14 _ 3 3 [1125899906842624, 1, -1] _ (rk_three w7 1125899906842624 1 (-1) (in_small (by decide)) (in_small (by decide)) (in_small (by decide)))).mono ?_
    rintro e w8 ⟨rfl, rfl⟩
    rw [v7.1, v7.2]
    replace HB := Lib.hid (upB HB.out (b1 w7 (.cells #[.int .i64 1125899906842624, .int .i64 1, .int .i64 (-1)] 3)))
    replace HR := Lib.hid (HR.out.up (b1 w7 (.cells #[.int .i64 1125899906842624, .int .i64 1, .int .i64 (-1)] 3)))
    obtain ⟨W, hW⟩ : ∃ W, w7.alloc (.cells #[.int .i64 1125899906842624, .int .i64 1, .int .i64 (-1)] 3) = W := ⟨_, rfl⟩
    rw [hW] at HB HR ⊢
    clear hW
    go_wp2_with fail
    refine (same22 (some ⟨g, 0, none⟩) _ 3 3 3 [1, 3, 6] _ (HR.out.up (b1 W _)) (rk_three W 1 3 6 (in_small (by decide)) (in_small (by decide)) (in_small (by decide)))).mono ?_
    rintro e w9 ⟨rfl, hb⟩
    replace HB := Lib.hid (upB (upB HB.out (b1 W _)) hb)
    clear hb HR
    go_wp2_with fail
    refine (show25 5 w9 (in_small (by decide)) (HT.out.next HB.out)).mono ?_
    rintro e w10 ⟨rfl, hb⟩
    rw [v8]
    replace HB := Lib.hid (upB HB.out hb)
    clear hb
    go_wp2_with fail
    go_ret
    exact ⟨rfl, HB.out⟩
end Go.Proofs.YtjipcopfggnlkaaDoor.Wk
