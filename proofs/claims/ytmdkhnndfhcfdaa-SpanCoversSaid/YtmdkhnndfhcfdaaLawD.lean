/- The law of what is covered, walked. Conditions: the slice reads as intervals. -/
import Derived.Test.YtmdkhnndfhcfdaaAl
set_option linter.unusedSimpArgs false
set_option linter.unusedVariables false
namespace Go.Proofs.Ytmdkhnndfhcfdaa.Wk
open Go.RowKit
open Go.Proofs.Ytmdkhnndfhcfdaa.Mt
theorem u16_r {a : Int} (h : (Lit.int .u16 a).wf = true) : 0 ≤ a ∧ a ≤ 65535 := by simpa [Lit.wf, IntKind.min, IntKind.max, IntKind.signed, IntKind.bits] using h
set_option maxHeartbeats 4000000 in
set_option maxRecDepth 100000 in
theorem covers_law (A : Option Addr) (n c : Nat) (l : List Iv) (x y at' : Int) (w : World) (h : Rp w w.heap.size A n l) (hat : 0 ≤ at' ∧ at' ≤ 65535) : Calls Try.prog 8 #[.slice A n c, .agg #[.int .i64 x, .int .i64 y], .int .u16 at'] w fun e w' => e = .returned (.bool true) ∧ Below w.heap.size w w' := by
  have HR := Lib.hid h
  have hn := h.2.1
  clear h
  by_cases hb60 : 60 < n
  · have hbI : (60 : Int) < (n : Int) := by omega
    go_enter Try.func8, Try.ntmps8
    go_wp2_with fail
    go_ret
    exact ⟨rfl, b1 _ _⟩
  · have hbI : decide ((60 : Int) < (n : Int)) = false := decide_eq_false (by omega)
    have HX := Lib.hid (Bx.new w 25 #[.int .i64 x, .int .i64 y])
    have HB := Lib.hid ((Below.refl w.heap.size w).alloc (Nat.le_refl _) (.cells #[.int .i64 x, .int .i64 y] 25))
    replace HR := Lib.hid (HR.out.up HB.out)
    obtain ⟨q, hq⟩ : ∃ q, cvB l x y = q := ⟨_, rfl⟩
    obtain ⟨p, hp⟩ : ∃ p, okB x y = p := ⟨_, rfl⟩
    have HQ := Lib.hid hq
    have HP := Lib.hid hp
    clear hq hp
    obtain ⟨c0, c1⟩ := HX.out.cells2
    have hlx := HX.out.lt
    go_enter Try.func8, Try.ntmps8
    go_wp2_with fail
    clear hbI
    refine (covers26 A n c l x y _ HR.out (by omega)).mono ?_
    rintro e w1 ⟨rfl, hb⟩
    replace HB := Lib.hid (upB HB.out hb)
    replace HR := Lib.hid (HR.out.up hb)
    replace HX := Lib.hid (HX.out.next hb)
    clear hb c0 c1 hlx
    obtain ⟨c0, c1⟩ := HX.out.cells2
    have hlx := HX.out.lt
    rw [HQ.out]
    go_wp2_with fail
    refine (valid11 x y _).mono ?_
    rintro e w2 ⟨rfl, hb⟩
    replace HB := Lib.hid (upB HB.out hb)
    replace HR := Lib.hid (HR.out.up hb)
    replace HX := Lib.hid (HX.out.next hb)
    clear hb c0 c1 hlx
    obtain ⟨c0, c1⟩ := HX.out.cells2
    have hlx := HX.out.lt
    rw [HP.out]
    rcases fot p with rfl | rfl
    · have hqf : q = false := by rw [← HQ.out]; exact cvB_bad HP.out
      subst hqf
      go_wp2_with fail
      refine (valid10 x y _).mono ?_
      rintro e w3 ⟨rfl, hb⟩
      replace HB := Lib.hid (upB HB.out hb)
      replace HR := Lib.hid (HR.out.up hb)
      replace HX := Lib.hid (HX.out.next hb)
      clear hb c0 c1 hlx
      obtain ⟨c0, c1⟩ := HX.out.cells2
      have hlx := HX.out.lt
      rw [HP.out]
      go_wp2_with fail
      refine (alive15 _).mono ?_
      rintro e w99 ⟨rfl, hb⟩
      replace HB := Lib.hid (upB HB.out hb)
      clear hb
      go_wp2_with fail
      go_ret
      exact ⟨rfl, HB.out⟩
    · have ho : Ok (x, y) := by have := HP.out; unfold okB at this; simpa using this
      have HO := Lib.hid ho
      have HI : Hid (In64 x ∧ In64 y) := Lib.hid (by unfold Ok at ho; unfold In64; simp only at ho; omega)
      have HY := Lib.hid (Bx.new w2 25 #[.int .i64 x, .int .i64 y])
      have HRY := Lib.hid (rp_one HY.out HI.out.1 HI.out.2)
      have hb := (Below.refl w2.heap.size w2).alloc (Nat.le_refl _) (.cells #[.int .i64 x, .int .i64 y] 25)
      replace HB := Lib.hid (upB HB.out hb)
      replace HR := Lib.hid (HR.out.up hb)
      replace HX := Lib.hid (HX.out.next hb)
      clear hb ho
      go_wp2_with fail
      refine (minus20 _ A 1 n _ c [(x, y)] l _ HRY.out HR.out (by omega) (by omega)).mono ?_
      rintro e w3 ⟨A3, c3, R3, rfl, h1, h2, h3, h4, h5, hb, h7⟩
      have HE := Lib.hid (cv_left HO.out h5 h4)
      replace HB := Lib.hid (upB HB.out hb)
      replace HR := Lib.hid (HR.out.up hb)
      replace HX := Lib.hid (HX.out.next hb)
      clear hb c0 c1 hlx
      obtain ⟨c0, c1⟩ := HX.out.cells2
      have hlx := HX.out.lt
      clear h1 h2 h3 h4 h5 h7
      obtain ⟨M, hM⟩ : ∃ M, R3.length = M := ⟨_, rfl⟩
      rw [hM, HQ.out] at HE
      rw [hM]
      clear hM
      have ho := HO.out
      unfold Ok at ho
      simp only at ho
      have hr0 := Int.tmod_nonneg (y - x) hat.1
      have hr1 := Int.tmod_lt_of_pos at' (by omega : 0 < y - x)
      obtain ⟨r, hr⟩ : ∃ r, Int.tmod at' (y - x) = r := ⟨_, rfl⟩
      rw [hr] at hr0 hr1
      have W0 : IntKind.i64.wrap at' = at' := IntWalk.i64_in _ (by omega)
      have W1 : IntKind.i64.wrap (y - x) = y - x := IntWalk.i64_in _ (by omega)
      have W2 : IntKind.i64.wrap r = r := IntWalk.i64_in _ (by omega)
      have W3 : IntKind.i64.wrap (x + r) = x + r := IntWalk.i64_in _ (by omega)
      have W4 : IntKind.i64.wrap (y - 1) = y - 1 := IntWalk.i64_in _ (by omega)
      have W5 : ((y - x) == 0) = false := by simp; omega
      have W6 : ¬ (y - x = 0) := by omega
      have W7 : ¬ (y - x = -1 ∧ at' = -9223372036854775808) := by omega
      
      rcases M with _ | M
      · have hqt : q = true := by rw [HE.out]; rfl
        subst hqt
        have HC : Hid (∀ t, x ≤ t → t < y → hsB l t = true) := Lib.hid (fun t a b => (hsB_iff l t).2 (by
          have : Cvd l x y := by
            rcases Classical.em (Cvd l x y) with k | k
            · exact k
            · have := cvB_no k; rw [HQ.out] at this; cases this
          exact this.2 t a b))
        have V1 := Lib.hid (HC.out (x + r) (by omega) (by omega))
        have V2 := Lib.hid (HC.out x (by omega) (by omega))
        have V3 := Lib.hid (HC.out (y - 1) (by omega) (by omega))
        clear ho
        go_wp2_with fail
        go_quiet (fail)
        have hb := below_drewN (Below.refl w3.heap.size w3) nq
        replace HB := Lib.hid (upB HB.out hb)
        replace HR := Lib.hid (HR.out.up hb)
        replace HX := Lib.hid (HX.out.next hb)
        clear hb c0 c1 hlx
        obtain ⟨c0, c1⟩ := HX.out.cells2
        have hlx := HX.out.lt
        go_wp2_with fail
        refine (has24 A n c l (x + r) _ HR.out).mono ?_
        rintro e w4 ⟨rfl, hb⟩
        replace HB := Lib.hid (upB HB.out hb)
        replace HR := Lib.hid (HR.out.up hb)
        replace HX := Lib.hid (HX.out.next hb)
        clear hb c0 c1 hlx
        obtain ⟨c0, c1⟩ := HX.out.cells2
        have hlx := HX.out.lt
        rw [V1.out]
        go_wp2_with fail
        refine (has24 A n c l x _ HR.out).mono ?_
        rintro e w5 ⟨rfl, hb⟩
        replace HB := Lib.hid (upB HB.out hb)
        replace HR := Lib.hid (HR.out.up hb)
        replace HX := Lib.hid (HX.out.next hb)
        clear hb c0 c1 hlx
        obtain ⟨c0, c1⟩ := HX.out.cells2
        have hlx := HX.out.lt
        rw [V2.out]
        go_wp2_with fail
        refine (has24 A n c l (y - 1) _ HR.out).mono ?_
        rintro e w6 ⟨rfl, hb⟩
        replace HB := Lib.hid (upB HB.out hb)
        replace HR := Lib.hid (HR.out.up hb)
        replace HX := Lib.hid (HX.out.next hb)
        clear hb c0 c1 hlx
        obtain ⟨c0, c1⟩ := HX.out.cells2
        have hlx := HX.out.lt
        rw [V3.out]
        go_wp2_with fail
        refine (alive15 _).mono ?_
        rintro e w99 ⟨rfl, hb⟩
        replace HB := Lib.hid (upB HB.out hb)
        clear hb
        go_wp2_with fail
        go_ret
        exact ⟨rfl, HB.out⟩
      · have hqt : q = false := by rw [HE.out]; rfl
        subst hqt
        have e1 : ((((M + 1 : Nat) : Int)) == 0) = false := by simp; omega
        have e2 : (((M : Int) + 1) == 0) = false := by simp; omega
        clear ho
        go_wp2_with fail
        go_quiet (fail)
        have hb := below_drewN (Below.refl w3.heap.size w3) nq
        replace HB := Lib.hid (upB HB.out hb)
        clear hb
        go_wp2_with fail
        refine (alive15 _).mono ?_
        rintro e w99 ⟨rfl, hb⟩
        replace HB := Lib.hid (upB HB.out hb)
        clear hb
        go_wp2_with fail
        go_ret
        exact ⟨rfl, HB.out⟩
end Go.Proofs.Ytmdkhnndfhcfdaa.Wk
