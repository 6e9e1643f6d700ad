/- Sums of amounts, in the layer and in its reference, walked. Conditions: the slice reads as the list; at most 1024 amounts. -/
import Derived.Test.YtjipcopfggnlkaaDoorRt
set_option linter.unusedSimpArgs false
set_option linter.unusedVariables false
namespace Go.Proofs.YtjipcopfggnlkaaDoor.Wk
open Go.RowKit
open Go.Proofs.YtjipcopfggnlkaaDoor.Mt
theorem fits17 (n : Int) (w : World) : Calls Tryd.prog 17 #[.int .i64 n] w fun e w' => e = .returned (.bool (fitB n)) ∧ w' = w := by
  go_enter Tryd.func17, Tryd.ntmps17
  by_cases h1 : -1125899906842624 ≤ n
  · by_cases h2 : n ≤ 1125899906842624
    · have e : fitB n = true := (fit_iff n).2 ⟨h1, h2⟩
      have d1 : decide (-1125899906842624 ≤ n) = true := decide_eq_true h1
      have d2 : decide (n ≤ 1125899906842624) = true := decide_eq_true h2
      rw [e]
      go_wp2_with fail
      go_ret
      exact ⟨rfl, rfl⟩
    · have e : fitB n = false := (fit_no n).2 (by omega)
      have d1 : decide (-1125899906842624 ≤ n) = true := decide_eq_true h1
      have d2 : decide (n ≤ 1125899906842624) = false := decide_eq_false h2
      rw [e]
      go_wp2_with fail
      go_ret
      exact ⟨rfl, rfl⟩
  · have e : fitB n = false := (fit_no n).2 (by omega)
    have d1 : decide (-1125899906842624 ≤ n) = false := decide_eq_false h1
    rw [e]
    go_wp2_with fail
    go_ret
    exact ⟨rfl, rfl⟩
set_option maxHeartbeats 4000000 in
set_option maxRecDepth 100000 in
theorem total28 (A : Option Addr) (n c : Nat) (zs : List Int) (w : World) (h : Rk .i64 w w.heap.size A n zs) (hn : n ≤ 1024) : Calls Tryd.prog 28 #[.slice A n c] w fun e w' => e = .returned (.tuple #[.int .i64 (toV zs), .int .i64 (toE zs)]) ∧ w' = w := by
  have HZ := Lib.hid h
  have HLN := Lib.hid h.1
  clear h
  obtain ⟨V, hV⟩ : ∃ V, toV zs = V := ⟨_, rfl⟩
  obtain ⟨E, hE⟩ : ∃ E, toE zs = E := ⟨_, rfl⟩
  have HV := Lib.hid hV
  have HE := Lib.hid hE
  rw [hV, hE]
  clear hV hE
  go_enter Tryd.func28, Tryd.ntmps28
  go_wp2_with fail
  go_loopw [4, 6, 9] (fun sv _ iv wr => ∃ (i : Nat) (s : Int), i ≤ n ∧ iv = .int .i64 i ∧ sv = .int .i64 s ∧ Hid (s = su zs i) ∧ Hid (∀ j, j < i → fitB (iat zs j) = true) ∧ wr = w) (fun _ _ iv _ => n - (intOf iv).toNat)
  case atStart => exact ⟨0, 0, by omega, rfl, rfl, Lib.hid rfl, Lib.hid (fun j hj => by omega), rfl⟩
  case round =>
    obtain ⟨i, s, hi, rfl, rfl, HS, HF, hwr⟩ := hrel
    have hwr2 := hwr.symm
    clear hwr
    subst hwr2
    have hsb := su_in i (by omega) HF.out
    rw [← HS.out] at hsb
    by_cases hlt : i < n
    · have hltI : (i : Int) < (n : Int) := by omega
      have W1 : IntKind.i64.wrap ((i : Int) + 1) = (i : Int) + 1 := IntWalk.i64_in _ (by omega)
      obtain ⟨b, off, rfl, hbB, hcell⟩ := HZ.out.get hlt
      obtain ⟨x, hx⟩ : ∃ x, iat zs i = x := ⟨_, rfl⟩
      rw [hx] at hcell
      have HX := Lib.hid hx
      clear hx
      go_wp2_with fail
      refine (fits16 x w).mono ?_
      rintro e w1 ⟨rfl, hw⟩
      rw [hw]
      clear hw
      rcases fot (fitB x) with hf | hf
      · have hb := to_bad (i := i) (zs := zs) (by rw [HLN.out]; exact hlt) (by rw [HX.out]; exact hf)
        obtain rfl : (0 : Int) = V := hb.2.symm.trans HV.out
        obtain rfl : (13 : Int) = E := hb.1.symm.trans HE.out
        rw [hf]
        clear hb
        go_wp2_with fail
        go_ret2
        exact ⟨rfl, rfl⟩
      · have hfx := (fit_iff x).1 hf
        have W2 : IntKind.i64.wrap (s + x) = s + x := IntWalk.i64_in _ (by omega)
        have HS2 : Hid (s + x = su zs (i + 1)) := Lib.hid (by rw [su, ← HS.out, HX.out])
        have HF2 : Hid (∀ j, j < i + 1 → fitB (iat zs j) = true) := Lib.hid (fun j hj => by
          rcases Nat.lt_or_ge j i with h9 | h9
          · exact HF.out j h9
          · rw [show j = i by omega, HX.out]; exact hf)
        rw [hf]
        go_wp2_with fail
        go_roundw
        case rel => exact ⟨i + 1, s + x, by omega, by go_num, rfl, HS2, HF2, by trivial⟩
        case measure => simp [intOf]; omega
    · have hltI : ¬ (i : Int) < (n : Int) := by omega
      obtain rfl : i = n := by omega
      have HT := Lib.hid (to_all (zs := zs) (by rw [HLN.out]; exact HF.out))
      have HSL : Hid (su zs zs.length = s) := Lib.hid (by rw [HLN.out]; exact HS.out.symm)
      go_wp2_with fail
      refine (fits16 s w).mono ?_
      rintro e w1 ⟨rfl, hw⟩
      rw [hw]
      clear hw
      rcases fot (fitB s) with hf | hf
      · have hb := HT.out.2 (by rw [HSL.out]; exact hf)
        obtain rfl : (0 : Int) = V := hb.2.symm.trans HV.out
        obtain rfl : (13 : Int) = E := hb.1.symm.trans HE.out
        rw [hf]
        clear hb
        go_wp2_with fail
        go_ret2
        exact ⟨rfl, rfl⟩
      · have hb := HT.out.1 (by rw [HSL.out]; exact hf)
        rw [HSL.out] at hb
        obtain rfl : s = V := hb.2.symm.trans HV.out
        obtain rfl : (0 : Int) = E := hb.1.symm.trans HE.out
        rw [hf]
        clear hb
        go_wp2_with fail
        go_ret2
        exact ⟨rfl, rfl⟩
end Go.Proofs.YtjipcopfggnlkaaDoor.Wk
