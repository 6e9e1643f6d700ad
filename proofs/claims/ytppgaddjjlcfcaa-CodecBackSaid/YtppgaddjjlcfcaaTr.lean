/- Text in the reference. Conditions: the bytes read as the list; at most 100000 bytes. -/
import Derived.Test.YtppgaddjjlcfcaaTt
set_option linter.unusedSimpArgs false
set_option linter.unusedVariables false
namespace Go.Proofs.Ytppgaddjjlcfcaa.Wk
open Go.RowKit
open Go.Proofs.Ytppgaddjjlcfcaa.Mt
set_option maxHeartbeats 4000000 in
set_option maxRecDepth 100000 in
theorem text21 (A : Option Addr) (n c : Nat) (t : Int) (zs : List Int) (w : World) (h : Rk .u8 w w.heap.size A n zs) (ht : -9223372036854775808 ≤ t ∧ t ≤ 9223372036854775807) (hn : n ≤ 100000) (hc : n ≤ c) (hcc : c ≤ 9223372036854775807) : Calls Try.prog 21 #[.slice A n c, .int .i64 t] w fun e w' => e = .returned (.tuple #[.string (bys (teL zs n t)), .int .i64 (teN zs n t), .int .i64 (teE zs n t)]) ∧ Below w.heap.size w w' := by
  go_enter Try.func21, Try.ntmps21
  go_wp2_with fail
  refine (int19 A n c t zs w h ht hn).mono ?_
  rintro e w1 ⟨rfl, hb⟩
  have HB := Lib.hid hb
  have HZ1 := Lib.hid (h.up hb)
  clear hb h ht
  by_cases hE : nuE zs n t = 0
  · obtain ⟨v, hv⟩ : ∃ v, nuV zs n t = v := ⟨_, rfl⟩
    obtain ⟨nx, hnx, hnxn, hnx0⟩ := nuN_in hE
    rw [hv, hnx, hE]
    have HEE := Lib.hid hE
    have HV := Lib.hid hv
    have HNX := Lib.hid hnx
    clear hE hv hnx
    by_cases h1 : v < 0
    · have he := te_neg HEE.out (by rw [HV.out]; exact h1)
      have HE := Lib.hid he
      have HZ := Lib.hid (te_no (zs := zs) (n := n) (t := t) (by rw [he]; decide))
      clear he
      go_wp2_with fail
      go_ret3
      exact ⟨by rw [HE.out, HZ.out.1, HZ.out.2]; rfl, HB.out⟩
    · by_cases h2 : 65536 < v
      · have he := te_long HEE.out (by rw [HV.out]; exact h1) (by rw [HV.out]; exact h2)
        have HE := Lib.hid he
        have HZ := Lib.hid (te_no (zs := zs) (n := n) (t := t) (by rw [he]; decide))
        clear he
        go_wp2_with fail
        go_ret3
        exact ⟨by rw [HE.out, HZ.out.1, HZ.out.2]; rfl, HB.out⟩
      · obtain ⟨m, rfl⟩ : ∃ m : Nat, v = (m : Int) := ⟨v.toNat, by omega⟩
        have hm6 : m ≤ 65536 := by omega
        have W1 : IntKind.i64.wrap ((n : Int) - (nx : Int)) = (n : Int) - (nx : Int) := IntWalk.i64_in _ (by omega)
        by_cases h3 : (n : Int) - (nx : Int) < (m : Int)
        · have he := te_short HEE.out (by rw [HV.out]; exact h1) (by rw [HV.out]; exact h2) (by rw [HV.out, HNX.out]; exact h3)
          have HE := Lib.hid he
          have HZ := Lib.hid (te_no (zs := zs) (n := n) (t := t) (by rw [he]; decide))
          clear he
          go_wp2_with fail
          go_ret3
          exact ⟨by rw [HE.out, HZ.out.1, HZ.out.2]; rfl, HB.out⟩
        · have hok := te_ok HEE.out (by rw [HV.out]; exact h1) (by rw [HV.out]; exact h2) (by rw [HV.out, HNX.out]; exact h3)
          rw [HV.out, HNX.out] at hok
          simp only [Int.toNat_natCast] at hok
          have hln : nx + m ≤ n := by omega
          have W2 : IntKind.i64.wrap ((nx : Int) + (m : Int)) = (nx : Int) + (m : Int) := IntWalk.i64_in _ (by omega)
          have p1 : (0 : Int) ≤ (nx : Int) + (m : Int) := by omega
          have p2 : (nx : Int) + (m : Int) ≤ (c : Int) := by omega
          have p3 : (nx : Int) ≤ (nx : Int) + (m : Int) := by omega
          have T1 : ((nx : Int) + (m : Int)).toNat = nx + m := by omega
          have T2 : nx + m - nx = m := by omega
          clear h3
          rcases Nat.eq_zero_or_pos m with hm0 | hm0
          · subst hm0
            rw [show Mt.sub zs nx 0 = [] by simp [Mt.sub]] at hok
            have HOK := Lib.hid hok
            have hcv := fun A' c' => conv_nil w1 A' c'
            clear hok
            by_cases hcl : c = nx
            · as_aux_lemma =>
                go_wp2_with fail
                go_ret3
                exact ⟨by rw [HOK.out.1, HOK.out.2.1, HOK.out.2.2]; rfl, HB.out⟩
            · as_aux_lemma =>
                go_wp2_with fail
                go_ret3
                exact ⟨by rw [HOK.out.1, HOK.out.2.1, HOK.out.2.2]; rfl, HB.out⟩
          · obtain ⟨b, off, rfl, hbB, _⟩ := HZ1.out.get (i := 0) (by omega)
            have hcl : ¬ c = nx := by omega
            have HOK := Lib.hid hok
            have hR := HZ1.out.sub hln hbB
            have hcv := conv_rk (c := c - nx) hR
            clear hok hR
            as_aux_lemma =>
              go_wp2_with fail
              go_ret3
              exact ⟨by rw [HOK.out.1, HOK.out.2.1, HOK.out.2.2]; rfl, HB.out⟩
  · have he := te_num hE
    obtain ⟨z1, z2⟩ := nu_ev hE
    obtain ⟨er, her⟩ : ∃ er, nuE zs n t = er := ⟨_, rfl⟩
    rw [her] at he hE
    rw [z1, z2, her]
    have e1 : (er != 0) = true := by simp [hE]
    have hE2 := Lib.hid hE
    clear her z1 z2 hE
    have HE := Lib.hid he
    have HZ := Lib.hid (te_no (zs := zs) (n := n) (t := t) (by rw [he]; exact hE2.out))
    clear he
    go_wp2_with fail
    go_ret3
    exact ⟨by rw [HE.out, HZ.out.1, HZ.out.2]; rfl, HB.out⟩
end Go.Proofs.Ytppgaddjjlcfcaa.Wk
