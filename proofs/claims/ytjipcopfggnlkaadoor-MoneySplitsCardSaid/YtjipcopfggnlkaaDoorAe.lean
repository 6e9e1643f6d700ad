/- Add and Sum, in the layer and in its reference, walked. Conditions: the numbers are machine integers; the slice reads as the list. -/
import Derived.Test.YtjipcopfggnlkaaDoorAd
set_option linter.unusedSimpArgs false
set_option linter.unusedVariables false
namespace Go.Proofs.YtjipcopfggnlkaaDoor.Mt
def smE (zs : List Int) : Int := if 1024 < zs.length then 3 else toE zs
def smV (zs : List Int) : Int := if 1024 < zs.length then 0 else toV zs
theorem two_bad1 {a b : Int} (h : fitB a = false) : toE [a, b] = 13 ∧ toV [a, b] = 0 := to_bad (i := 0) (zs := [a, b]) (show 0 < 2 by decide) h
theorem two_bad2 {a b : Int} (h : fitB b = false) : toE [a, b] = 13 ∧ toV [a, b] = 0 := to_bad (i := 1) (zs := [a, b]) (show 1 < 2 by decide) h
theorem two_all {a b : Int} (h1 : fitB a = true) (h2 : fitB b = true) : (fitB (a + b) = true → toE [a, b] = 0 ∧ toV [a, b] = a + b) ∧ (fitB (a + b) = false → toE [a, b] = 13 ∧ toV [a, b] = 0) := by
  have h := to_all (zs := [a, b]) (by
    intro j hj
    have : j < 2 := hj
    rcases (by omega : j = 0 ∨ j = 1) with rfl | rfl
    · exact h1
    · exact h2)
  have e : su [a, b] [a, b].length = a + b := by
    show 0 + a + b = a + b
    omega
  rw [e] at h
  exact h
end Go.Proofs.YtjipcopfggnlkaaDoor.Mt
namespace Go.Proofs.YtjipcopfggnlkaaDoor.Wk
open Go.RowKit
open Go.Proofs.YtjipcopfggnlkaaDoor.Mt
theorem i64_w {a : Int} (h : In64 a) : (Lit.int .i64 a).wf = true := by unfold In64 at h; simpa [Lit.wf, IntKind.min, IntKind.max, IntKind.signed, IntKind.bits] using h
theorem i64_r {a : Int} (h : (Lit.int .i64 a).wf = true) : In64 a := by unfold In64; simpa [Lit.wf, IntKind.min, IntKind.max, IntKind.signed, IntKind.bits] using h
theorem rk_two (w : World) (a b : Int) (ha : In64 a) (hb : In64 b) : Rk .i64 (w.alloc (.cells #[.int .i64 a, .int .i64 b] 3)) (w.alloc (.cells #[.int .i64 a, .int .i64 b] 3)).heap.size (some ⟨w.heap.size, 0, none⟩) 2 [a, b] :=
  Rk.block (zs := [a, b]) (t := 3) (by have := Bx.new w 3 #[.int .i64 a, .int .i64 b]; simpa [vk] using this) (by simp) (fun i => by
    match i with
    | 0 => exact i64_w ha
    | 1 => exact i64_w hb
    | (k + 2) => simp [iat, Lit.wf, IntKind.min, IntKind.max, IntKind.signed, IntKind.bits])
theorem add12 (a b : Int) (w : World) (ha : In64 a) (hb : In64 b) : Calls Tryd.prog 12 #[.int .i64 a, .int .i64 b] w fun e w' => e = .returned (.tuple #[.int .i64 (toV [a, b]), .int .i64 (toE [a, b])]) ∧ Below w.heap.size w w' := by
  have HR := Lib.hid (rk_two w a b ha hb)
  obtain ⟨V, hV⟩ : ∃ V, toV [a, b] = V := ⟨_, rfl⟩
  obtain ⟨E, hE⟩ : ∃ E, toE [a, b] = E := ⟨_, rfl⟩
  have HV := Lib.hid hV
  have HE := Lib.hid hE
  rw [hV, hE]
  clear hV hE
  go_enter Tryd.func12, Tryd.ntmps12
  go_wp2_with fail
  refine (total28 _ 2 2 [a, b] _ HR.out (by omega)).mono ?_
  rintro e w1 ⟨rfl, rfl⟩
  rw [HV.out, HE.out]
  go_wp2_with fail
  go_ret2
  exact ⟨rfl, b1 _ _⟩
set_option maxHeartbeats 1000000 in
theorem add13 (a b : Int) (w : World) (ha : In64 a) (hb : In64 b) : Calls Tryd.prog 13 #[.int .i64 a, .int .i64 b] w fun e w' => e = .returned (.tuple #[.int .i64 (toV [a, b]), .int .i64 (toE [a, b])]) ∧ w' = w := by
  obtain ⟨V, hV⟩ : ∃ V, toV [a, b] = V := ⟨_, rfl⟩
  obtain ⟨E, hE⟩ : ∃ E, toE [a, b] = E := ⟨_, rfl⟩
  have HV := Lib.hid hV
  have HE := Lib.hid hE
  rw [hV, hE]
  clear hV hE
  go_enter Tryd.func13, Tryd.ntmps13
  go_wp2_with fail
  refine (fits17 a w).mono ?_
  rintro e w1 ⟨rfl, hw⟩
  rw [hw]
  clear hw
  rcases fot (fitB a) with hfa | hfa
  · have hb := two_bad1 (b := b) hfa
    obtain rfl : (0 : Int) = V := hb.2.symm.trans HV.out
    obtain rfl : (13 : Int) = E := hb.1.symm.trans HE.out
    rw [hfa]
    clear hb
    go_wp2_with fail
    go_ret2
    exact ⟨rfl, rfl⟩
  · rw [hfa]
    go_wp2_with fail
    refine (fits17 b w).mono ?_
    rintro e w1 ⟨rfl, hw⟩
    rw [hw]
    clear hw
    rcases fot (fitB b) with hfb | hfb
    · have hb := two_bad2 (a := a) hfb
      obtain rfl : (0 : Int) = V := hb.2.symm.trans HV.out
      obtain rfl : (13 : Int) = E := hb.1.symm.trans HE.out
      rw [hfb]
      clear hb
      go_wp2_with fail
      go_ret2
      exact ⟨rfl, rfl⟩
    · have W1 : IntKind.i64.wrap (a + b) = a + b := by
        have h1 := (fit_iff a).1 hfa
        have h2 := (fit_iff b).1 hfb
        exact IntWalk.i64_in _ (by omega)
      rw [hfb]
      go_wp2_with fail
      refine (fits17 (a + b) w).mono ?_
      rintro e w1 ⟨rfl, hw⟩
      rw [hw]
      clear hw
      rcases fot (fitB (a + b)) with hf | hf
      · have hb := (two_all hfa hfb).2 hf
        obtain rfl : (0 : Int) = V := hb.2.symm.trans HV.out
        obtain rfl : (13 : Int) = E := hb.1.symm.trans HE.out
        rw [hf]
        clear hb
        go_wp2_with fail
        go_ret2
        exact ⟨rfl, rfl⟩
      · have hb := (two_all hfa hfb).1 hf
        obtain rfl : a + b = V := hb.2.symm.trans HV.out
        obtain rfl : (0 : Int) = E := hb.1.symm.trans HE.out
        rw [hf]
        clear hb
        go_wp2_with fail
        go_ret2
        exact ⟨rfl, rfl⟩
theorem sum14 (A : Option Addr) (n c : Nat) (zs : List Int) (w : World) (h : Rk .i64 w w.heap.size A n zs) : Calls Tryd.prog 14 #[.slice A n c] w fun e w' => e = .returned (.tuple #[.int .i64 (smV zs), .int .i64 (smE zs)]) ∧ w' = w := by
  have HZ := Lib.hid h
  have hln := h.1
  have hn9 := h.2.1
  by_cases hb : 1024 < n
  · have e1 : smV zs = 0 := if_pos (by rw [hln]; exact hb)
    have e2 : smE zs = 3 := if_pos (by rw [hln]; exact hb)
    have d1 : decide ((1024 : Int) < (n : Int)) = true := decide_eq_true (by omega)
    rw [e1, e2]
    clear e1 e2 hln h
    go_enter Tryd.func14, Tryd.ntmps14
    go_wp2_with fail
    go_ret2
    exact ⟨rfl, rfl⟩
  · have e1 : smV zs = toV zs := if_neg (by rw [hln]; exact hb)
    have e2 : smE zs = toE zs := if_neg (by rw [hln]; exact hb)
    have d1 : decide ((1024 : Int) < (n : Int)) = false := decide_eq_false (by omega)
    rw [e1, e2]
    obtain ⟨V, hV⟩ : ∃ V, toV zs = V := ⟨_, rfl⟩
    obtain ⟨E, hE⟩ : ∃ E, toE zs = E := ⟨_, rfl⟩
    have HV := Lib.hid hV
    have HE := Lib.hid hE
    rw [hV, hE]
    clear hV hE e1 e2 hln h
    go_enter Tryd.func14, Tryd.ntmps14
    go_wp2_with fail
    refine (total28 A n c zs w HZ.out (by omega)).mono ?_
    rintro e w1 ⟨rfl, hw⟩
    rw [hw, HV.out, HE.out]
    clear hw
    go_wp2_with fail
    go_ret2
    exact ⟨rfl, rfl⟩
set_option maxHeartbeats 4000000 in
set_option maxRecDepth 100000 in
theorem sum15 (A : Option Addr) (n c : Nat) (zs : List Int) (w : World) (h : Rk .i64 w w.heap.size A n zs) : Calls Tryd.prog 15 #[.slice A n c] w fun e w' => e = .returned (.tuple #[.int .i64 (smV zs), .int .i64 (smE zs)]) ∧ Below w.heap.size w w' := by
  have HZ := Lib.hid h
  have hln := h.1
  have HLN := Lib.hid hln
  have hn9 := h.2.1
  by_cases hb : 1024 < n
  · have e1 : smV zs = 0 := if_pos (by rw [hln]; exact hb)
    have e2 : smE zs = 3 := if_pos (by rw [hln]; exact hb)
    have d1 : decide ((1024 : Int) < (n : Int)) = true := decide_eq_true (by omega)
    rw [e1, e2]
    clear e1 e2 hln h
    go_enter Tryd.func15, Tryd.ntmps15
    go_wp2_with fail
    go_ret2
    exact ⟨rfl, Below.refl _ _⟩
  · have e1 : smV zs = toV zs := if_neg (by rw [hln]; exact hb)
    have e2 : smE zs = toE zs := if_neg (by rw [hln]; exact hb)
    have d1 : decide ((1024 : Int) < (n : Int)) = false := decide_eq_false (by omega)
    rw [e1, e2]
    obtain ⟨V, hV⟩ : ∃ V, toV zs = V := ⟨_, rfl⟩
    obtain ⟨E, hE⟩ : ∃ E, toE zs = E := ⟨_, rfl⟩
    have HV := Lib.hid hV
    have HE := Lib.hid hE
    rw [hV, hE]
    clear hV hE e1 e2 hln h
    go_enter Tryd.func15, Tryd.ntmps15
    go_wp2_with fail
    clear d1
    go_loopw [4, 5] (fun sv iv wr => ∃ (i : Nat) (s : Int), i ≤ n ∧ iv = .int .i64 i ∧ sv = .int .i64 s ∧ Hid (s = su zs i) ∧ Hid (∀ j, j < i → fitB (iat zs j) = true) ∧ Hid (Below w.heap.size w wr)) (fun _ iv _ => n - (intOf iv).toNat)
    case atStart => exact ⟨0, 0, by omega, rfl, rfl, Lib.hid rfl, Lib.hid (fun j hj => by omega), Lib.hid (Below.refl _ _)⟩
    case round =>
      obtain ⟨i, s, hi, rfl, rfl, HS, HF, HB⟩ := hrel
      have hsb := su_in i (by omega) HF.out
      rw [← HS.out] at hsb
      by_cases hlt : i < n
      · have hltI : (i : Int) < (n : Int) := by omega
        have W1 : IntKind.i64.wrap ((i : Int) + 1) = (i : Int) + 1 := IntWalk.i64_in _ (by omega)
        have HZ1 := Lib.hid (HZ.out.up HB.out)
        obtain ⟨b, off, rfl, hbB, hcell⟩ := HZ1.out.get hlt
        obtain ⟨x, hx⟩ : ∃ x, iat zs i = x := ⟨_, rfl⟩
        rw [hx] at hcell
        have HX := Lib.hid hx
        clear hx
        go_wp2_with fail
        refine (fits17 x _).mono ?_
        rintro e w1 ⟨rfl, hw⟩
        rw [hw]
        clear hw
        rcases fot (fitB x) with hf | hf
        · have hb := to_bad (i := i) (zs := zs) (by rw [HLN.out]; exact hlt) (by rw [HX.out]; exact hf)
          obtain rfl : (0 : Int) = V := hb.2.symm.trans HV.out
          obtain rfl : (13 : Int) = E := hb.1.symm.trans HE.out
          rw [hf]
          clear hb
          go_wp2_with fail
          go_ret2
          exact ⟨rfl, HB.out⟩
        · have hfx := (fit_iff x).1 hf
          have W2 : IntKind.i64.wrap (s + x) = s + x := IntWalk.i64_in _ (by omega)
          have HS2 : Hid (s + x = su zs (i + 1)) := Lib.hid (by rw [su, ← HS.out, HX.out])
          have HF2 : Hid (∀ j, j < i + 1 → fitB (iat zs j) = true) := Lib.hid (fun j hj => by
            rcases Nat.lt_or_ge j i with h9 | h9
            · exact HF.out j h9
            · rw [show j = i by omega, HX.out]; exact hf)
          rw [hf]
          go_wp2_with fail
          go_roundw
          case rel => exact ⟨i + 1, s + x, by omega, by go_num, rfl, HS2, HF2, HB⟩
          case measure => simp [intOf]; omega
      · have hltI : ¬ (i : Int) < (n : Int) := by omega
        obtain rfl : i = n := by omega
        have HT := Lib.hid (to_all (zs := zs) (by rw [HLN.out]; exact HF.out))
        have HSL : Hid (su zs zs.length = s) := Lib.hid (by rw [HLN.out]; exact HS.out.symm)
        go_wp2_with fail
        refine (fits17 s _).mono ?_
        rintro e w1 ⟨rfl, hw⟩
        rw [hw]
        clear hw
        rcases fot (fitB s) with hf | hf
        · have hb := HT.out.2 (by rw [HSL.out]; exact hf)
          obtain rfl : (0 : Int) = V := hb.2.symm.trans HV.out
          obtain rfl : (13 : Int) = E := hb.1.symm.trans HE.out
          rw [hf]
          clear hb
          go_wp2_with fail
          go_ret2
          exact ⟨rfl, HB.out⟩
        · have hb := HT.out.1 (by rw [HSL.out]; exact hf)
          rw [HSL.out] at hb
          obtain rfl : s = V := hb.2.symm.trans HV.out
          obtain rfl : (0 : Int) = E := hb.1.symm.trans HE.out
          rw [hf]
          clear hb
          go_wp2_with fail
          go_ret2
          exact ⟨rfl, HB.out⟩
end Go.Proofs.YtjipcopfggnlkaaDoor.Wk
