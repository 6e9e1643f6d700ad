/- The search for differences, in the layer: a method that calls itself. Conditions: two trees of the same shape, no more than 4096 leaves; the search lies in a block of the call's own. -/
import Derived.Test.YtbhdghopdhehdaaBl
set_option linter.unusedSimpArgs false
set_option linter.unusedVariables false
namespace Go.Proofs.Ytbhdghopdhehdaa.Mt
theorem pow_up {a b : Nat} (h : a ≤ b) : 2 ^ a ≤ 2 ^ b := Nat.pow_le_pow_right (by omega) h
end Go.Proofs.Ytbhdghopdhehdaa.Mt
namespace Go.Proofs.Ytbhdghopdhehdaa.Wk
open Go.RowKit
open Go.Proofs.Ytbhdghopdhehdaa.Mt
set_option maxHeartbeats 1000000 in
set_option maxRecDepth 100000 in
theorem compare35 (w0 : World) (a b : List Int) (n : Nat) (ha : a.length = n) (hb : b.length = n) (hn4 : n ≤ 4096) (ba oa bb ob T c c' g : Nat) (hA : Tr w0 (some ⟨ba, oa, none⟩) n a T) (hB : Tr w0 (some ⟨bb, ob, none⟩) n b T) (hg : w0.heap.size ≤ g) : ∀ (N k i : Nat) (xs : List Int) (m : Nat) (v : Value) (w : World) (lv j mm : Int), k < N → k ≤ T → lv = (k : Int) → j = (i : Int) → mm = (m : Int) → i < abn n k → Ow .i64 3 w0.heap.size w0 w v xs → v.ownBlock ≠ some g → Bx w g 60 #[.slice (some ⟨ba, oa, none⟩) (T + 1) c, .slice (some ⟨bb, ob, none⟩) (T + 1) c', v, .int .i64 mm] → xs.length + 2 ^ k ≤ 1000000 → m + 2 ^ (k + 1) ≤ 1000000 →
    Calls Try.prog 35 #[.pointer (some ⟨g, 0, none⟩), .int .i64 lv, .int .i64 j] w fun e w' => e = .returned (.tuple #[]) ∧ ∃ v', Ow .i64 3 w0.heap.size w0 w' v' (dv a b k i (xs, m)).1 ∧ v'.ownBlock ≠ some g ∧ Bx w' g 60 #[.slice (some ⟨ba, oa, none⟩) (T + 1) c, .slice (some ⟨bb, ob, none⟩) (T + 1) c', v', .int .i64 ((dv a b k i (xs, m)).2 : Nat)] := by
  intro N
  obtain ⟨i0, hi0, hz0, hs0, hb0'⟩ := info_parts int_info
  have HTA := Lib.hid hA
  have HTB := Lib.hid hB
  clear hA hB
  induction N with
  | zero => intro k i xs m v w lv j mm h; omega
  | succ N ih =>
    intro k i xs m v w lv j mm hkN hkT hlv hj hmm hi hO hN hX hx hm
    subst hlv hj hmm
    obtain ⟨vA, vn, vc, rfl⟩ := hO.form
    have hi4 : i ≤ 4096 := by have := abn_le n k; omega
    have hp3 : 1 ≤ 2 ^ k := Nat.one_le_two_pow
    have hm1 : m + 2 ≤ 1000000 := by rw [Nat.pow_succ] at hm; omega
    have hx1 : xs.length + 1 ≤ 1000000 := by omega
    have hk5 : k + 1 ≤ 1000000 := by have : k < 2 ^ k := Nat.lt_two_pow_self; omega
    have HP : Hid (xs.length + 2 ^ k ≤ 1000000 ∧ m + 2 ^ (k + 1) ≤ 1000000) := Lib.hid ⟨hx, hm⟩
    clear hx hm hp3
    have HO1 : Hid (Ow .i64 3 w0.heap.size w0 (w.setCell ⟨g, 3, none⟩ (.int .i64 ((m : Int) + 1))) (.slice vA vn vc) xs) := Lib.hid (hO.set hg hN _ _)
    have HX1 : Hid (Bx (w.setCell ⟨g, 3, none⟩ (.int .i64 ((m : Int) + 1))) g 60 #[.slice (some ⟨ba, oa, none⟩) (T + 1) c, .slice (some ⟨bb, ob, none⟩) (T + 1) c', .slice vA vn vc, .int .i64 ((m : Int) + 1)]) := Lib.hid (hX.set 3 _)
    have HN := Lib.hid hN
    have HI := Lib.hid hi
    have HI1 := Lib.hid hi
    have HX := Lib.hid hX
    obtain ⟨Aq1, cq1, u1, u2⟩ := HTA.out.at (i := i) (q := k) HO1.out.2.1 hkT
    obtain ⟨Bq1, cq1', z1, z2⟩ := HTB.out.at (i := i) (q := k) HO1.out.2.1 hkT
    obtain ⟨b2, o2, rfl, u3⟩ := u2 hi
    obtain ⟨b3, o3, rfl, z3⟩ := z2 hi
    obtain ⟨M1, hM1⟩ : ∃ M1, abn n k = M1 := ⟨_, rfl⟩
    rw [hM1] at hi u1 z1
    have hiI : (i : Int) < (M1 : Int) := by omega
    have hkI : (k : Int) < (T : Int) + 1 := by omega
    obtain ⟨p, hp⟩ : ∃ p, iat (upn a k) i = p := ⟨_, rfl⟩
    obtain ⟨q, hq⟩ : ∃ q, iat (upn b k) i = q := ⟨_, rfl⟩
    have HIP := Lib.hid hp
    have HIQ := Lib.hid hq
    rw [hp] at u3
    rw [hq] at z3
    obtain ⟨x0, x1, x2, x3⟩ := hX.cells4
    have f3 := hX.free 3
    have lg := hX.lt
    clear hp hq hM1 u2 z2 hO hX hN
    obtain ⟨y0, y1, y2, y3⟩ := HX1.out.cells4
    by_cases he : p = q
    · have hE : (p == q) = true := by simp [he]
      have HE : Hid (dv a b k i (xs, m) = (xs, m + 1)) := Lib.hid (dv_equal (by rw [ha, hb]) k i (xs, m) (by rw [ha]; exact HI.out) (by rw [HIP.out, HIQ.out]; exact he))
      clear he
      go_enter Try.func35, Try.ntmps35
      go_wp2_with fail
      generalize (w.setCell ⟨g, 3, none⟩ (.int .i64 ((m : Int) + 1))) = w1 at HO1 HX1 u1 z1 u3 z3 y0 y1 y2 y3 ⊢
      clear x0 x1 x2 x3
      go_quiet (fail)
      go_wp2_with fail
      go_returns
      rw [HE.out]
      exact ⟨rfl, _, HO1.out.below (below_drewN (Below.refl _ _) nq), HN.out, HX1.out.next (below_drewN (Below.refl _ _) nq)⟩
    · have hE : (p == q) = false := by simp [he]
      have hne : ¬ iat (upn a k) i = iat (upn b k) i := by rw [HIP.out, HIQ.out]; exact he
      have HNE := Lib.hid hne
      clear he hne
      go_enter Try.func35, Try.ntmps35
      go_wp2_with fail
      generalize (w.setCell ⟨g, 3, none⟩ (.int .i64 ((m : Int) + 1))) = w1 at HO1 HX1 u1 z1 u3 z3 y0 y1 y2 y3 ⊢
      clear x0 x1 x2 x3
      go_quiet (fail)
      replace HO1 := Lib.hid (HO1.out.below (below_drewN (Below.refl w1.heap.size w1) nq))
      replace HX1 := Lib.hid (HX1.out.next (below_drewN (Below.refl w1.heap.size w1) nq))
      generalize w1.drewN nq = w2 at HO1 HX1 ⊢
      clear u1 z1 u3 z3 y0 y1 y2 y3 f3 lg HX HI HIP HIQ hiI hkI hi
      go_wp2_with fail
      clear hE
      go_loop [1, 2] (fun lv iv => ∃ l q : Nat, lv = .int .i64 l ∧ iv = .int .i64 q ∧ l ≤ k ∧ Hid (q < abn n l) ∧ Hid (¬ iat (upn a l) q = iat (upn b l) q) ∧ Hid (dv a b k i (xs, m) = dv a b l q (xs, m))) (fun lv _ => (intOf lv).toNat)
      case atStart => exact ⟨k, i, rfl, rfl, Nat.le_refl _, HI1, HNE, Lib.hid rfl⟩
      case round =>
        obtain ⟨l, q, rfl, rfl, hlk, HQ, HNQ, HDV⟩ := hrel
        obtain ⟨x0, x1, x2, x3⟩ := HX1.out.cells4
        rcases Nat.eq_zero_or_pos l with hl0 | hl0
        · subst hl0
          have HE : Hid (dv a b k i (xs, m) = (xs ++ [(q : Int)], m + 1)) := Lib.hid (by have hz : ¬ iat a q = iat b q := HNQ.out; rw [HDV.out, dv, if_neg hz])
          have hq4 : q ≤ 4096 := by have := HQ.out; have := abn_le n 0; omega
          have C4 : Hid (xs.length + 1 ≤ maxLen) := Lib.hid (by unfold maxLen; omega)
          have C5 : Hid ((xs.length + 1) * 8 ≤ 140737488355328) := Lib.hid (by omega)
          have HV1 := Lib.hid HO1.out.2.2
          have lb1 := HO1.out.size
          have lg := HX1.out.lt
          go_wp2_with (go_loud (at_builtin; refine wpList_append_lies _ rfl _ _ 45 rfl w0.heap.size 3 i0 (.int .i64 0) 1 8 Try.underlying45 hi0 hz0 hs0 hb0' rfl (by omega) _ xs.length (vk .i64 xs) rfl (HV1.out.alloc _) ⟨_, 0, none⟩ 1 1 [.int .i64 (q : Int)] rfl rfl (new_cell _ _ _ _ (by simp)) (one_int .i64 (q : Int)) (by omega) C4.out C5.out (by simp; omega) _ rfl ?_))
          intro g9 cap9 w9 hown hgrow hat hlt9
          have hat0 : (Value.slice vA vn vc).ownBlock = some g9 ∨ g9 = w2.heap.size + 1 := by simpa using hat
          have HO9 : Hid (Ow .i64 3 w0.heap.size w0 w9 (.slice (some ⟨g9, 0, none⟩) (xs.length + 1) cap9) (xs ++ [(q : Int)])) := Lib.hid (HO1.out.app rfl hown hgrow)
          have HK19 : Hid (Kp w2 w9 (.slice vA vn vc) (.slice (some ⟨g9, 0, none⟩) (xs.length + 1) cap9)) := Lib.hid (Kp.app (Kp.refl _ _) hgrow hat0)
          have HX9 := Lib.hid (HK19.out.bx HX1.out HN.out)
          have HN19 := Lib.hid (HK19.out.off lg HN.out)
          clear hown hgrow hat hat0 x0 x1 x2 x3
          obtain ⟨x0, x1, x2, x3⟩ := HX9.out.cells4
          have f2 := HX9.out.free 2
          have l6 := HX9.out.lt
          go_wp2_with fail
          go_returns
          rw [HE.out]
          exact ⟨rfl, _, HO9.out.set hg HN19.out _ _, HN19.out, HX9.out.set 2 _⟩
        · obtain ⟨l, rfl⟩ : ∃ l', l = l' + 1 := ⟨l - 1, by omega⟩
          have hl1 : (0 : Int) < (l : Int) + 1 := by omega
          obtain ⟨Aq, cq, u1, _⟩ := HTA.out.at (i := q) (q := l) HO1.out.2.1 (by omega)
          obtain ⟨M, hM⟩ : ∃ M, abn n l = M := ⟨_, rfl⟩
          rw [hM] at u1
          have hq2 : q < ab M := by have := HQ.out; rw [abn_next, hM] at this; exact this
          have hMm : M ≤ 4096 := by have := abn_le n l; omega
          have hq4 : q ≤ 4096 := by have := ab_top M; omega
          have hlT : (l : Int) < (T : Int) + 1 := by omega
          have h2q : 2 * q < M := by unfold ab at hq2; omega
          by_cases ho : M ≤ 2 * q + 1
          · have hoI : (M : Int) ≤ 2 * (q : Int) + 1 := by omega
            have HE := Lib.hid (dv_alone (a := a) (b := b) (k := l) (i := q) (xs, m) (by rw [ha, hM]; exact ho))
            have HNA := Lib.hid (node_alone (l := a) (k := l) (i := q) (by rw [ha]; exact HQ.out) (by rw [ha, hM]; exact ho))
            have HNB := Lib.hid (node_alone (l := b) (k := l) (i := q) (by rw [hb]; exact HQ.out) (by rw [hb, hM]; exact ho))
            go_wp2_with fail
            go_round
            case rel => exact ⟨l, 2 * q, by go_num, by go_num, by omega, Lib.hid (by rw [hM]; exact h2q), Lib.hid (by rw [← HNA.out, ← HNB.out]; exact HNQ.out), Lib.hid (by rw [HDV.out, HE.out])⟩
            case measure => simp [intOf]; try omega
          · have hoI : decide ((M : Int) ≤ 2 * (q : Int) + 1) = false := decide_eq_false (by omega)
            have h2j : 2 * q + 1 < M := by omega
            have hk0 : ((l : Int) + 1 == 0) = false := by simp; omega
            have HE : Hid (dv a b k i (xs, m) = dv a b l (2 * q + 1) (dv a b l (2 * q) (xs, m + 1))) := Lib.hid (by rw [HDV.out]; exact dv_both (xs, m) (by rw [ha, hM]; exact ho) HNQ.out)
            have hpl : 2 ^ (l + 1) ≤ 2 ^ k := pow_up hlk
            have hpm : 2 ^ (l + 1 + 1) ≤ 2 ^ (k + 1) := pow_up (by omega)
            have hps : 2 ^ (l + 1) = 2 ^ l + 2 ^ l := by rw [Nat.pow_succ]; omega
            have hpt : 2 ^ (l + 1 + 1) = 2 ^ (l + 1) + 2 ^ (l + 1) := by rw [Nat.pow_succ (m := l + 1)]; omega
            have HPP : Hid (xs.length + (2 ^ l + 2 ^ l) ≤ 1000000 ∧ m + (2 ^ (l + 1) + 2 ^ (l + 1)) ≤ 1000000 ∧ 1 ≤ 2 ^ l) := Lib.hid (by have h1 := HP.out; have h2 : 1 ≤ 2 ^ l := Nat.one_le_two_pow; omega)
            clear hpl hpm hps hpt
            go_wp2_with fail
            refine (ih l (2 * q) xs (m + 1) (.slice vA vn vc) _ (l : Int) (2 * (q : Int)) ((m : Int) + 1) (by omega) (by omega) rfl (by omega) (by omega) (by rw [hM]; exact h2q) HO1.out HN.out HX1.out (by have := HPP.out; omega) (by have := HPP.out; omega)).mono ?_
            rintro e wn ⟨rfl, v2, ho2, hn2, hx2⟩
            obtain ⟨A2, n2, c2, rfl⟩ := ho2.form
            obtain ⟨⟨ys, r⟩, hyr⟩ : ∃ x, dv a b l (2 * q) (xs, m + 1) = x := ⟨_, rfl⟩
            have HL1 := Lib.hid (dv_len a b l (2 * q) (xs, m + 1))
            have HL2 := Lib.hid (dv_num a b l (2 * q) (xs, m + 1))
            rw [hyr] at ho2 HL1 HL2 hx2 HE
            have HO2 := Lib.hid ho2
            have HN2 := Lib.hid hn2
            have HX2 : Hid (Bx wn g 60 #[.slice (some ⟨ba, oa, none⟩) (T + 1) c, .slice (some ⟨bb, ob, none⟩) (T + 1) c', .slice A2 n2 c2, .int .i64 (r : Int)]) := Lib.hid hx2
            clear ho2 hn2 hx2 hyr
            go_wp2_with fail
            refine (ih l (2 * q + 1) ys r (.slice A2 n2 c2) _ (l : Int) (2 * (q : Int) + 1) (r : Int) (by omega) (by omega) rfl (by omega) rfl (by rw [hM]; exact h2j) HO2.out HN2.out HX2.out (by have h1 := HPP.out; have h2 : ys.length ≤ xs.length + 2 ^ l := HL1.out; omega) (by have h1 := HPP.out; have h2 : r + 1 ≤ m + 1 + 2 ^ (l + 1) := HL2.out; omega)).mono ?_
            rintro e w4 ⟨rfl, v3, ho4, hn4', hx4⟩
            go_wp2_with fail
            go_returns
            rw [HE.out]
            exact ⟨rfl, v3, ho4, hn4', hx4⟩
end Go.Proofs.Ytbhdghopdhehdaa.Wk
