/- The string at an offset, in the layer: what is handed back is no nil slice. Conditions: as bytes40. -/
import Derived.Test.YtppgaddjjlcfcaaFm
set_option linter.unusedSimpArgs false
set_option linter.unusedVariables false
namespace Go.Proofs.Ytppgaddjjlcfcaa.Wk
open Go.RowKit
open Go.Proofs.Ytppgaddjjlcfcaa.Mt
def TeS (zs : List Int) (n : Nat) (t : Int) (g B : Nat) (w : World) (e : Ending) (w' : World) : Prop :=
  (teE zs n t ≠ 0 ∧ e = .panicked [fl (teE zs n t)] ∧ ∃ x, Below w.heap.size (w.setCell ⟨g, 1, none⟩ (.int .i64 x)) w') ∨ (teE zs n t = 0 ∧ ∃ A' c', e = .returned (.slice A' (teL zs n t).length c') ∧ A' ≠ none ∧ (teL zs n t).length ≤ c' ∧ Rk .u8 w' B A' (teL zs n t).length (teL zs n t) ∧ Below w.heap.size (w.setCell ⟨g, 1, none⟩ (.int .i64 (teN zs n t))) w')
set_option maxHeartbeats 4000000 in
set_option maxRecDepth 100000 in
theorem bytes40s (g n c : Nat) (A : Option Addr) (t : Int) (zs : List Int) (B : Nat) (w : World) (h : Bx w g 57 #[.slice A n c, .int .i64 t]) (hz : Rk .u8 w B A n zs) (hB : B ≤ g) (hn : n ≤ 100000) (hc : n ≤ c) (hcc : c ≤ 9223372036854775807) : Calls Try.prog 40 #[.pointer (some ⟨g, 0, none⟩)] w (TeS zs n t g B w) := by
  go_enter Try.func40, Try.ntmps40
  go_wp2_with fail
  refine (number37 g n c A t zs B w h hz hB hn).mono ?_
  rintro e w1 (⟨hne, rfl, hb⟩ | ⟨hE, rfl, hb⟩)
  · have he := te_num hne
    refine ⟨rfl, .inl ⟨by rw [he]; exact hne, by rw [he], t, ?_⟩⟩
    rw [set_same h (by rfl)]
    exact hb
  · obtain ⟨v, hv⟩ : ∃ v, nuV zs n t = v := ⟨_, rfl⟩
    obtain ⟨nx, hnx, hnxn, hnx0⟩ := nuN_in hE
    rw [hnx] at hb
    rw [hv]
    have hg : Bx w1 g 57 #[.slice A n c, .int .i64 (nx : Int)] := (h.set 1 (.int .i64 nx)).below hb (by have := h.lt; omega)
    have HW := Lib.hid hb
    have HZ1 := Lib.hid (hz.below (set_below hb hB h.lt) (Nat.le_refl _))
    have HGL := Lib.hid h.lt
    have HEE := Lib.hid hE
    have HV := Lib.hid hv
    have HNX := Lib.hid hnx
    clear hb hz h hE hv hnx
    by_cases h1 : v < 0
    · have he := te_neg HEE.out (by rw [HV.out]; exact h1)
      have HE := Lib.hid he
      clear he
      go_wp2_with fail
      refine (fail46 5 _).mono ?_
      rintro e w' ⟨rfl, rfl⟩
      exact ⟨rfl, .inl ⟨by rw [HE.out]; decide, by rw [HE.out], nx, HW.out⟩⟩
    · by_cases h2 : 65536 < v
      · have he := te_long HEE.out (by rw [HV.out]; exact h1) (by rw [HV.out]; exact h2)
        have HE := Lib.hid he
        clear he
        go_wp2_with fail
        refine (fail46 4 _).mono ?_
        rintro e w' ⟨rfl, rfl⟩
        exact ⟨rfl, .inl ⟨by rw [HE.out]; decide, by rw [HE.out], nx, HW.out⟩⟩
      · obtain ⟨m, rfl⟩ : ∃ m : Nat, v = (m : Int) := ⟨v.toNat, by omega⟩
        have hm6 : m ≤ 65536 := by omega
        have W1 : IntKind.i64.wrap ((n : Int) - (nx : Int)) = (n : Int) - (nx : Int) := IntWalk.i64_in _ (by omega)
        obtain ⟨c0, c1⟩ := hg.cells2
        have hlt := hg.lt
        have fz := hg.free 1
        by_cases h3 : (n : Int) - (nx : Int) < (m : Int)
        · have he := te_short HEE.out (by rw [HV.out]; exact h1) (by rw [HV.out]; exact h2) (by rw [HV.out, HNX.out]; exact h3)
          have HE := Lib.hid he
          clear he hg
          go_wp2_with fail
          go_quiet (fail)
          go_wp2_with fail
          refine (fail46 7 _).mono ?_
          rintro e w' ⟨rfl, rfl⟩
          exact ⟨rfl, .inl ⟨by rw [HE.out]; decide, by rw [HE.out], nx, below_drewN HW.out nq⟩⟩
        · have hok := te_ok HEE.out (by rw [HV.out]; exact h1) (by rw [HV.out]; exact h2) (by rw [HV.out, HNX.out]; exact h3)
          rw [HV.out, HNX.out] at hok
          simp only [Int.toNat_natCast] at hok
          have hln : nx + m ≤ n := by omega
          have HOK := Lib.hid hok
          have HLN : Hid ((Mt.sub zs nx m).length = m) := Lib.hid (sub_len (by rw [HZ1.out.1]; exact hln))
          have W2 : IntKind.i64.wrap ((nx : Int) + (m : Int)) = (nx : Int) + (m : Int) := IntWalk.i64_in _ (by omega)
          have W3 : IntKind.i64.wrap ((nx : Int) + (m : Int) - (m : Int)) = (nx : Int) := by rw [IntWalk.i64_in _ (by omega)]; omega
          have p1 : (0 : Int) ≤ (nx : Int) + (m : Int) := by omega
          have p2 : (nx : Int) + (m : Int) ≤ (c : Int) := by omega
          have p3 : (nx : Int) ≤ (nx : Int) + (m : Int) := by omega
          have T1 : ((nx : Int) + (m : Int)).toNat = nx + m := by omega
          have T2 : nx + m - nx = m := by omega
          clear hok h3
          rcases Nat.eq_zero_or_pos m with hm0 | hm0
          · subst hm0
            obtain ⟨b, off, rfl, hbB, _⟩ := HZ1.out.get (i := 0) (by omega)
            clear hg
            by_cases hcl : c = nx
            · as_aux_lemma =>
                go_wp2_with fail
                go_quiet (fail)
                go_wp2_with fail
                go_quiet (fail)
                go_wp2_with fail
                go_ret
                refine .inr ⟨HOK.out.1, ?_⟩
                rw [HOK.out.2.2, HLN.out, HOK.out.2.1]
                exact ⟨_, _, rfl, by simp, by omega, by rw [show Mt.sub zs nx 0 = [] by simp [Mt.sub]]; exact rk_empty _ _ _, below_drewN (by rw [← set_set (x := .int .i64 (nx : Int))]; exact below_set (below_drewN HW.out _) HGL.out) _⟩
            · as_aux_lemma =>
                go_wp2_with fail
                go_quiet (fail)
                go_wp2_with fail
                go_quiet (fail)
                go_wp2_with fail
                go_ret
                refine .inr ⟨HOK.out.1, ?_⟩
                rw [HOK.out.2.2, HLN.out, HOK.out.2.1]
                exact ⟨_, _, rfl, by simp, by omega, by rw [show Mt.sub zs nx 0 = [] by simp [Mt.sub]]; exact rk_empty _ _ _, below_drewN (by rw [← set_set (x := .int .i64 (nx : Int))]; exact below_set (below_drewN HW.out _) HGL.out) _⟩
          · obtain ⟨b, off, rfl, hbB, _⟩ := HZ1.out.get (i := 0) (by omega)
            have hcl : ¬ c = nx := by omega
            have hR := Lib.hid (HZ1.out.sub hln hbB)
            clear hg
            go_wp2_with fail
            go_quiet (fail)
            go_wp2_with fail
            go_quiet (fail)
            go_wp2_with fail
            go_ret
            refine .inr ⟨HOK.out.1, ?_⟩
            rw [HOK.out.2.2, HLN.out, HOK.out.2.1]
            exact ⟨_, _, rfl, by simp, by omega, hR.out.below (below_drewN ((below_drewN (Below.refl B w1) _).setCell (p := ⟨g, 1, none⟩) hB _) _) (Nat.le_refl _), below_drewN (by rw [← set_set (x := .int .i64 (nx : Int))]; exact below_set (below_drewN HW.out _) HGL.out) _⟩
end Go.Proofs.Ytppgaddjjlcfcaa.Wk
