/- The search for differences, in the reference. Conditions: two trees of the same shape, no more than 4096 leaves; a row of the call's own. -/
import Derived.Test.YtbhdghopdhehdaaKp
import Derived.Handy
import Derived.StillTailTactics
set_option linter.unusedSimpArgs false
set_option linter.unusedVariables false
namespace Go.Proofs.Ytbhdghopdhehdaa.Wk
open Go.RowKit
open Go.Proofs.Ytbhdghopdhehdaa.Mt
theorem Ow.form {k : IntKind} {t : TypeId} {base : Nat} {w0 wr : World} {v : Value} {xs : List Int} (h : Ow k t base w0 wr v xs) : ∃ A n c, v = .slice A n c := by
  rcases h.2.2.2 with ⟨h1, _⟩ | ⟨g, cap, cur, h1, _⟩
  · exact ⟨_, _, _, h1⟩
  · exact ⟨_, _, _, h1⟩
theorem int_info : (Try.prog.info? 3).map (fun i => (i.zero, i.size, i.bytes)) = some (some (.int .i64 0), 1, 8) := by kernel_rfl
set_option maxHeartbeats 4000000 in
set_option maxRecDepth 100000 in
theorem below36 (w0 : World) (a b : List Int) (n : Nat) (ha : a.length = n) (hn4 : n ≤ 4096) (A B : Option Addr) : ∀ (k i : Nat) (xs : List Int) (m : Nat) (v : Value) (w : World) (c c' : Nat) (j mm : Int), j = (i : Int) → mm = (m : Int) → Tr w0 A n a k → Tr w0 B n b k → i < abn n k → k + 1 ≤ c → k + 1 ≤ c' → Ow .i64 3 w0.heap.size w0 w v xs → xs.length + 2 ^ k ≤ 1000000 → m + 2 ^ (k + 1) ≤ 1000000 →
    Calls Try.prog 36 #[.slice A (k + 1) c, .slice B (k + 1) c', .int .i64 j, .agg #[v, .int .i64 mm]] w fun e w' => ∃ v', e = .returned (.agg #[v', .int .i64 ((dv a b k i (xs, m)).2 : Nat)]) ∧ Ow .i64 3 w0.heap.size w0 w' v' (dv a b k i (xs, m)).1 ∧ Kp w w' v v' := by
  intro k
  obtain ⟨i0, hi0, hz0, hs0, hb0'⟩ := info_parts int_info
  induction k with
  | zero =>
    intro i xs m v w c c' j mm hj hmj hA hB hi hc hc' hO hx hm
    subst hj hmj
    have hm1 : m + 2 ≤ 1000000 := by simpa using hm
    have hx1 : xs.length + 1 ≤ 1000000 := by simpa using hx
    have hi4 : i ≤ 4096 := by have := abn_le n 0; omega
    clear hm hx
    obtain ⟨vA, vn, vc, rfl⟩ := hO.form
    have HK0 := Lib.hid (Kp.refl w (.slice vA vn vc))
    obtain ⟨ba, oa, rfl, hla, hqa⟩ := hA
    obtain ⟨bb, ob, rfl, hlb, hqb⟩ := hB
    obtain ⟨Aq, cq, x1, x2⟩ := Tr.at (i := i) (wr := w) (k := 0) (q := 0) ⟨ba, oa, rfl, hla, hqa⟩ hO.2.1 (Nat.le_refl _)
    obtain ⟨Bq, cq', y1, y2⟩ := Tr.at (i := i) (wr := w) (k := 0) (q := 0) ⟨bb, ob, rfl, hlb, hqb⟩ hO.2.1 (Nat.le_refl _)
    obtain ⟨b2, o2, rfl, x3⟩ := x2 hi
    obtain ⟨b3, o3, rfl, y3⟩ := y2 hi
    have l1 := World.block_lt_of_cell? _ _ x1
    have l2 := World.block_lt_of_cell? _ _ x3
    have l3 := World.block_lt_of_cell? _ _ y1
    have l4 := World.block_lt_of_cell? _ _ y3
    simp only at l1 l2 l3 l4
    rw [Nat.add_zero] at x1 y1
    obtain ⟨M, hM⟩ : ∃ M, abn n 0 = M := ⟨_, rfl⟩
    rw [hM] at hi x1 y1
    have hMm : M ≤ 4096 := by have := abn_le n 0; omega
    have HIA : Hid (iat (upn a 0) i = iat a i) := Lib.hid rfl
    have HIB : Hid (iat (upn b 0) i = iat b i) := Lib.hid rfl
    obtain ⟨p, hp⟩ : ∃ p, iat (upn a 0) i = p := ⟨_, rfl⟩
    obtain ⟨q, hq⟩ : ∃ q, iat (upn b 0) i = q := ⟨_, rfl⟩
    rw [hp] at x3 HIA
    rw [hq] at y3 HIB
    clear hp hq hM x2 y2 hqa hqb
    have HO := Lib.hid hO
    have hbase := hO.size
    clear hO
    have HN1 : Hid ((Value.slice vA vn vc).ownBlock ≠ some w.heap.size) := Lib.hid (HO.out.lt (Nat.le_refl _))
    have HN2 : Hid ((Value.slice vA vn vc).ownBlock ≠ some (w.heap.size + 1)) := Lib.hid (HO.out.lt (by omega))
    by_cases he : p = q
    · have hE : (p == q) = true := by simp [he]
      have HE : Hid (dv a b 0 i (xs, m) = (xs, m + 1)) := Lib.hid (by rw [dv, if_pos (by rw [← HIA.out, ← HIB.out]; exact he)])
      clear he
      go_enter Try.func36, Try.ntmps36
      go_wp2_with fail
      go_quiet (fail)
      go_wp2_with fail
      go_returns
      rw [HE.out]
      exact ⟨_, rfl, (((((HO.out.al _).al _).below (below_drewN (Below.refl _ _) nq)).set (by omega) HN2.out _ _).set (by omega) HN2.out _ _), (((Kp.of _ (below_drewN (((Below.refl _ _).alloc (Nat.le_refl _) _).alloc (by simp) _) nq)).set (by omega) _ _).set (by omega) _ _)⟩
    · have hE : (p == q) = false := by simp [he]
      have HE : Hid (dv a b 0 i (xs, m) = (xs ++ [(i : Int)], m + 1)) := Lib.hid (by rw [dv, if_neg (by rw [← HIA.out, ← HIB.out]; exact he)])
      clear he
      have C4 : Hid (xs.length + 1 ≤ maxLen) := Lib.hid (by unfold maxLen; omega)
      have C5 : Hid ((xs.length + 1) * 8 ≤ 140737488355328) := Lib.hid (by omega)
      have i1 : (i : Int) ≤ 4096 := by omega
      go_enter Try.func36, Try.ntmps36
      go_wp2_with fail
      go_quiet (fail)
      have HO1 := Lib.hid (((HO.out.al (.cells #[.slice vA vn vc, .int .i64 ((m : Int) + 1)] 63)).al (.cells #[.slice none 0 0, .int .i64 0] 63)).below (below_drewN (Below.refl _ _) nq))
      have HK1 := Lib.hid (Kp.of (.slice vA vn vc) (below_drewN (((Below.refl w.heap.size w).alloc (Nat.le_refl _) (.cells #[.slice vA vn vc, .int .i64 ((m : Int) + 1)] 63)).alloc (by simp) (.cells #[.slice none 0 0, .int .i64 0] 63)) nq))
      have HX : Hid (Bx (((w.alloc (.cells #[.slice vA vn vc, .int .i64 ((m : Int) + 1)] 63)).alloc (.cells #[.slice none 0 0, .int .i64 0] 63)).drewN nq) w.heap.size 63 #[.slice vA vn vc, .int .i64 ((m : Int) + 1)]) := Lib.hid (((Bx.new w 63 _).alloc _).next (below_drewN (Below.refl _ _) nq))
      have HY : Hid (Bx (((w.alloc (.cells #[.slice vA vn vc, .int .i64 ((m : Int) + 1)] 63)).alloc (.cells #[.slice none 0 0, .int .i64 0] 63)).drewN nq) (w.heap.size + 1) 63 #[.slice none 0 0, .int .i64 0]) := Lib.hid ((Bx.newAt (by simp)).next (below_drewN (Below.refl _ _) nq))
      have hs1 : (((w.alloc (.cells #[.slice vA vn vc, .int .i64 ((m : Int) + 1)] 63)).alloc (.cells #[.slice none 0 0, .int .i64 0] 63)).drewN nq).heap.size = w.heap.size + 2 := by simp
      generalize (((w.alloc (.cells #[.slice vA vn vc, .int .i64 ((m : Int) + 1)] 63)).alloc (.cells #[.slice none 0 0, .int .i64 0] 63)).drewN nq) = w1 at HO1 HK1 HX HY hs1 ⊢
      have HV1 := Lib.hid HO1.out.2.2
      obtain ⟨x5, x6⟩ := HX.out.cells2
      have l5 : w.heap.size < w1.heap.size := by omega
      have l55 : w.heap.size + 1 < w1.heap.size := by omega
      have lb1 : w0.heap.size ≤ w1.heap.size := by omega
      clear hs1
      clear x1 x3 y1 y3 l1 l2 l3 l4
      go_wp2_with (go_loud (at_builtin; refine wpList_append_lies _ rfl _ _ 45 rfl w0.heap.size 3 i0 (.int .i64 0) 1 8 Try.underlying45 hi0 hz0 hs0 hb0' rfl (by omega) _ xs.length (vk .i64 xs) rfl (HV1.out.alloc _) ⟨_, 0, none⟩ 1 1 [.int .i64 (i : Int)] rfl rfl (new_cell _ _ _ _ (by simp)) (one_int .i64 (i : Int)) (by omega) C4.out C5.out (by simp; omega) _ rfl ?_))
      intro g9 cap9 w9 hown hgrow hat hlt9
      have hat0 : (Value.slice vA vn vc).ownBlock = some g9 ∨ g9 = w1.heap.size + 1 := by simpa using hat
      have HO9 : Hid (Ow .i64 3 w0.heap.size w0 w9 (.slice (some ⟨g9, 0, none⟩) (xs.length + 1) cap9) (xs ++ [(i : Int)])) := Lib.hid (HO1.out.app rfl hown hgrow)
      have HK9 := Lib.hid (HK1.out.trans (Kp.app (n := xs.length + 1) (cap := cap9) (Kp.refl _ _) hgrow hat0))
      have HK19 : Hid (Kp w1 w9 (.slice vA vn vc) (.slice (some ⟨g9, 0, none⟩) (xs.length + 1) cap9)) := Lib.hid (Kp.app (Kp.refl _ _) hgrow hat0)
      have HX9 := Lib.hid (HK19.out.bx HX.out HN1.out)
      have HY9 := Lib.hid (HK19.out.bx HY.out HN2.out)
      have HN19 := Lib.hid (HK19.out.off l5 HN1.out)
      have HN29 := Lib.hid (HK19.out.off l55 HN2.out)
      clear hown hgrow hat hat0
      clear x5 x6
      obtain ⟨x5, x6⟩ := HX9.out.cells2
      obtain ⟨y5, y6⟩ := HY9.out.cells2
      have f1 := HX9.out.free 0
      have f2 := HY9.out.free 0
      have f3 := HY9.out.free 1
      have l6 : w.heap.size < w9.heap.size := HX9.out.lt
      have l7 : w.heap.size + 1 < w9.heap.size := HY9.out.lt
      go_wp2_with fail
      have z0 : Bx ((w9.setCell ⟨w.heap.size, 0, none⟩ (.slice (some ⟨g9, 0, none⟩) (xs.length + 1) cap9)).setCell ⟨w.heap.size + 1, 0, none⟩ (.slice (some ⟨g9, 0, none⟩) (xs.length + 1) cap9)) (w.heap.size + 1) 63 #[.slice (some ⟨g9, 0, none⟩) (xs.length + 1) cap9, .int .i64 0] := (HY9.out.far (by omega) 0 _).set 0 _
      have z1 := z0.set 1 (.int .i64 ((m : Int) + 1))
      have c1 := z0.cells2.1
      have c2 := z1.cells2
      refine bodyPost_ret (v := .agg #[.slice (some ⟨g9, 0, none⟩) (xs.length + 1) cap9, .int .i64 ((m : Int) + 1)]) (by simp [results, Try.results36, go_sem, c1, c2.1, c2.2]) rfl ?_
      rw [HE.out]
      exact ⟨_, rfl, ((HO9.out.set (by omega) HN19.out _ _).set (by omega) HN29.out _ _).set (by omega) HN29.out _ _, ((HK9.out.set (by omega) _ _).set (by omega) _ _).set (by omega) _ _⟩
  | succ k ih =>
    intro i xs m v w c c' j mm hj hmj hA hB hi hc hc' hO hx hm
    subst hj hmj
    have hp1 : 2 ^ (k + 1) = 2 ^ k + 2 ^ k := by rw [Nat.pow_succ]; omega
    have hp2 : 2 ^ (k + 1 + 1) = 2 ^ (k + 1) + 2 ^ (k + 1) := by rw [Nat.pow_succ (m := k + 1)]; omega
    have hp3 : 1 ≤ 2 ^ k := Nat.one_le_two_pow
    have hm1 : m + 2 ≤ 1000000 := by omega
    have hk5 : k + 1 ≤ 1000000 := by have : k + 1 < 2 ^ (k + 1) := Nat.lt_two_pow_self; omega
    have hi4 : i ≤ 4096 := by have := abn_le n (k + 1); omega
    have hi2 : i < ab (abn n k) := hi
    have HP : Hid (xs.length + 2 ^ (k + 1) ≤ 1000000 ∧ m + 2 ^ (k + 1 + 1) ≤ 1000000 ∧ 2 ^ (k + 1) = 2 ^ k + 2 ^ k ∧ 2 ^ (k + 1 + 1) = 2 ^ (k + 1) + 2 ^ (k + 1) ∧ 1 ≤ 2 ^ k) := Lib.hid ⟨hx, hm, hp1, hp2, hp3⟩
    clear hx hm hp1 hp2 hp3
    obtain ⟨vA, vn, vc, rfl⟩ := hO.form
    have HK0 := Lib.hid (Kp.refl w (.slice vA vn vc))
    have HA := Lib.hid hA.low
    have HB := Lib.hid hB.low
    obtain ⟨ba, oa, rfl, hla, hqa⟩ := hA
    obtain ⟨bb, ob, rfl, hlb, hqb⟩ := hB
    have HTA : Hid (Tr w0 (some ⟨ba, oa, none⟩) n a (k + 1)) := Lib.hid ⟨ba, oa, rfl, hla, hqa⟩
    have HTB : Hid (Tr w0 (some ⟨bb, ob, none⟩) n b (k + 1)) := Lib.hid ⟨bb, ob, rfl, hlb, hqb⟩
    clear hqa hqb
    have HO := Lib.hid hO
    have hbase := hO.size
    clear hO
    have HN1 : Hid ((Value.slice vA vn vc).ownBlock ≠ some w.heap.size) := Lib.hid (HO.out.lt (Nat.le_refl _))
    have HN2 : Hid ((Value.slice vA vn vc).ownBlock ≠ some (w.heap.size + 1)) := Lib.hid (HO.out.lt (by omega))
    obtain ⟨Aq, cq, x1, _⟩ := HTA.out.at (i := i) (wr := w) (q := k) HO.out.2.1 (by omega)
    obtain ⟨M, hM⟩ : ∃ M, abn n k = M := ⟨_, rfl⟩
    rw [hM] at hi2 x1
    have hMm : M ≤ 4096 := by have := abn_le n k; omega
    have l1 := World.block_lt_of_cell? _ _ x1
    simp only at l1
    have hi3 : (i : Int) ≤ 4096 := by omega
    have hwi : IntKind.i64.wrap (2 * (i : Int)) = 2 * (i : Int) := IntWalk.i64_in _ (by omega)
    have hwj : IntKind.i64.wrap (2 * (i : Int) + 1) = 2 * (i : Int) + 1 := IntWalk.i64_in _ (by omega)
    have hk7 : (0 : Int) ≤ ((k : Nat) : Int) + 1 := by omega
    have hk6 : (0 : Int) < ((k : Nat) : Int) + 1 := by omega
    have hcI : ((k : Nat) : Int) + 1 ≤ (c : Int) := by omega
    have hcI' : ((k : Nat) : Int) + 1 ≤ (c' : Int) := by omega
    have hcN : k + 1 ≤ c := by omega
    have hcN' : k + 1 ≤ c' := by omega
    by_cases ho : M ≤ 2 * i + 1
    · have hoI : (M : Int) ≤ 2 * (i : Int) + 1 := by omega
      have h2i : 2 * i < M := by unfold ab at hi2; omega
      have HE := Lib.hid (dv_alone (a := a) (b := b) (k := k) (i := i) (xs, m) (by rw [ha, hM]; exact ho))
      go_enter Try.func36, Try.ntmps36
      go_wp2_with fail
      have HO1 := Lib.hid ((HO.out.al (.cells #[.slice vA vn vc, .int .i64 (m : Int)] 63)).al (.cells #[.slice none 0 0, .int .i64 0] 63))
      have HK1 := Lib.hid (Kp.of (.slice vA vn vc) (((Below.refl w.heap.size w).alloc (Nat.le_refl _) (.cells #[.slice vA vn vc, .int .i64 (m : Int)] 63)).alloc (by simp) (.cells #[.slice none 0 0, .int .i64 0] 63)))
      have HX : Hid (Bx ((w.alloc (.cells #[.slice vA vn vc, .int .i64 (m : Int)] 63)).alloc (.cells #[.slice none 0 0, .int .i64 0] 63)) w.heap.size 63 #[.slice vA vn vc, .int .i64 (m : Int)]) := Lib.hid ((Bx.new w 63 _).alloc _)
      have HY : Hid (Bx ((w.alloc (.cells #[.slice vA vn vc, .int .i64 (m : Int)] 63)).alloc (.cells #[.slice none 0 0, .int .i64 0] 63)) (w.heap.size + 1) 63 #[.slice none 0 0, .int .i64 0]) := Lib.hid (Bx.newAt (by simp))
      have hs1 : (((w.alloc (.cells #[.slice vA vn vc, .int .i64 (m : Int)] 63)).alloc (.cells #[.slice none 0 0, .int .i64 0] 63))).heap.size = w.heap.size + 2 := by simp
      generalize ((w.alloc (.cells #[.slice vA vn vc, .int .i64 (m : Int)] 63)).alloc (.cells #[.slice none 0 0, .int .i64 0] 63)) = w1 at HO1 HK1 HX HY hs1 ⊢
      have hbase2 : w0.heap.size ≤ w.heap.size + 1 := by omega
      clear x1 l1 hbase
      have l55 : w.heap.size + 1 < w1.heap.size := by omega
      have l5 : w.heap.size < w1.heap.size := by omega
      clear hs1
      obtain ⟨x5, x6⟩ := HX.out.cells2
      go_still_tail 9, (by kernel_rfl)
      clear x5 x6
      replace HO1 := Lib.hid (HO1.out.below (Below.refl w1.heap.size w1).drew)
      replace HK1 := Lib.hid (HK1.out.trans (Kp.of _ (Below.refl w1.heap.size w1).drew))
      replace HX := Lib.hid (HX.out.next (Below.refl w1.heap.size w1).drew)
      replace HY := Lib.hid (HY.out.next (Below.refl w1.heap.size w1).drew)
      go_wp2_with (go_at_call 36; refine (ih (2 * i) xs m (.slice vA vn vc) _ c c' (2 * (i : Int)) (m : Int) (by omega) rfl HA.out HB.out (by rw [hM]; exact h2i) hcN hcN' HO1.out (by have := HP.out; omega) (by have := HP.out; omega)).mono ?_)
      rintro e wn ⟨v2, rfl, ho, hk⟩
      obtain ⟨A2, n2, c2, rfl⟩ := ho.form
      rw [← HE.out] at ho
      have HO2 := Lib.hid ho
      have HK2 := Lib.hid (HK1.out.trans hk)
      have HY2 := Lib.hid (hk.bx HY.out HN2.out)
      have HN22 := Lib.hid (hk.off HY.out.lt HN2.out)
      clear ho hk
      rw [← HE.out]
      obtain ⟨y5, y6⟩ := HY2.out.cells2
      have f2 := HY2.out.free 0
      have f3 := HY2.out.free 1
      have l7 : w.heap.size + 1 < wn.heap.size := HY2.out.lt
      obtain ⟨⟨ys, q⟩, hyq⟩ : ∃ r, dv a b (k + 1) i (xs, m) = r := ⟨_, rfl⟩
      rw [hyq] at HO2 ⊢
      have HYQ := Lib.hid hyq
      clear HE hyq
      go_wp2_with fail
      have z0 : Bx (wn.setCell ⟨w.heap.size + 1, 0, none⟩ (.slice A2 n2 c2)) (w.heap.size + 1) 63 #[.slice A2 n2 c2, .int .i64 0] := HY2.out.set 0 _
      have z1 := z0.set 1 (.int .i64 (q : Int))
      have c1 := z0.cells2.1
      have c2' := z1.cells2
      refine bodyPost_ret (v := .agg #[.slice A2 n2 c2, .int .i64 (q : Int)]) (by simp [results, Try.results36, go_sem, c1, c2'.1, c2'.2]) rfl ?_
      rw [HYQ.out]
      exact ⟨_, rfl, (HO2.out.set (by omega) HN22.out _ _).set (by omega) HN22.out _ _, (HK2.out.set (by omega) _ _).set (by omega) _ _⟩
    · have hoI : decide ((M : Int) ≤ 2 * (i : Int) + 1) = false := decide_eq_false (by omega)
      have h2i : 2 * i < M := by omega
      have h2j : 2 * i + 1 < M := by omega
      have HNA : Hid (¬ abn a.length k ≤ 2 * i + 1) := Lib.hid (by rw [ha, hM]; exact ho)
      obtain ⟨Aq1, cq1, u1, u2⟩ := HTA.out.at (i := i) (wr := w) (q := k + 1) HO.out.2.1 (by omega)
      obtain ⟨Bq1, cq1', z1, z2⟩ := HTB.out.at (i := i) (wr := w) (q := k + 1) HO.out.2.1 (by omega)
      obtain ⟨b2, o2, rfl, u3⟩ := u2 hi
      obtain ⟨b3, o3, rfl, z3⟩ := z2 hi
      have l2 := World.block_lt_of_cell? _ _ u1
      have l3 := World.block_lt_of_cell? _ _ u3
      have l4 := World.block_lt_of_cell? _ _ z1
      have l5 := World.block_lt_of_cell? _ _ z3
      simp only at l2 l3 l4 l5
      have u1' := u1
      rw [← Nat.add_assoc] at u1'
      have z1' := z1
      rw [← Nat.add_assoc] at z1'
      obtain ⟨M1, hM1⟩ : ∃ M1, abn n (k + 1) = M1 := ⟨_, rfl⟩
      rw [hM1] at hi u1 z1 u1' z1'
      have hMm1 : M1 ≤ 4096 := by have := abn_le n (k + 1); omega
      have hiI : (i : Int) < (M1 : Int) := by omega
      obtain ⟨p, hp⟩ : ∃ p, iat (upn a (k + 1)) i = p := ⟨_, rfl⟩
      obtain ⟨q, hq⟩ : ∃ q, iat (upn b (k + 1)) i = q := ⟨_, rfl⟩
      have HIP := Lib.hid hp
      have HIQ := Lib.hid hq
      rw [hp] at u3
      rw [hq] at z3
      clear hp hq hM1 u2 z2
      by_cases he : p = q
      · have hE : (p == q) = true := by simp [he]
        have HE : Hid (dv a b (k + 1) i (xs, m) = (xs, m + 1)) := Lib.hid (dv_same (xs, m) HNA.out (by rw [HIP.out, HIQ.out]; exact he))
        clear he
        go_enter Try.func36, Try.ntmps36
        go_wp2_with fail
        go_quiet (fail)
        go_wp2_with fail
        go_returns
        rw [HE.out]
        exact ⟨_, rfl, (((((HO.out.al _).al _).below (below_drewN (Below.refl _ _) nq)).set (by omega) HN2.out _ _).set (by omega) HN2.out _ _), (((Kp.of _ (below_drewN (((Below.refl _ _).alloc (Nat.le_refl _) _).alloc (by simp) _) nq)).set (by omega) _ _).set (by omega) _ _)⟩
      · have hE : (p == q) = false := by simp [he]
        have HE := Lib.hid (dv_both (a := a) (b := b) (k := k) (i := i) (xs, m) HNA.out (by rw [HIP.out, HIQ.out]; exact he))
        have hk0 : ((k : Int) + 1 == 0) = false := by simp; omega
        clear he
        go_enter Try.func36, Try.ntmps36
        go_wp2_with fail
        go_quiet (fail)
        have HO1 := Lib.hid (((HO.out.al (.cells #[.slice vA vn vc, .int .i64 ((m : Int) + 1)] 63)).al (.cells #[.slice none 0 0, .int .i64 0] 63)).below (below_drewN (Below.refl _ _) nq))
        have HK1 := Lib.hid (Kp.of (.slice vA vn vc) (below_drewN (((Below.refl w.heap.size w).alloc (Nat.le_refl _) (.cells #[.slice vA vn vc, .int .i64 ((m : Int) + 1)] 63)).alloc (by simp) (.cells #[.slice none 0 0, .int .i64 0] 63)) nq))
        have HX : Hid (Bx (((w.alloc (.cells #[.slice vA vn vc, .int .i64 ((m : Int) + 1)] 63)).alloc (.cells #[.slice none 0 0, .int .i64 0] 63)).drewN nq) w.heap.size 63 #[.slice vA vn vc, .int .i64 ((m : Int) + 1)]) := Lib.hid (((Bx.new w 63 _).alloc _).next (below_drewN (Below.refl _ _) nq))
        have HY : Hid (Bx (((w.alloc (.cells #[.slice vA vn vc, .int .i64 ((m : Int) + 1)] 63)).alloc (.cells #[.slice none 0 0, .int .i64 0] 63)).drewN nq) (w.heap.size + 1) 63 #[.slice none 0 0, .int .i64 0]) := Lib.hid ((Bx.newAt (by simp)).next (below_drewN (Below.refl _ _) nq))
        have hs1 : (((w.alloc (.cells #[.slice vA vn vc, .int .i64 ((m : Int) + 1)] 63)).alloc (.cells #[.slice none 0 0, .int .i64 0] 63)).drewN nq).heap.size = w.heap.size + 2 := by simp
        generalize (((w.alloc (.cells #[.slice vA vn vc, .int .i64 ((m : Int) + 1)] 63)).alloc (.cells #[.slice none 0 0, .int .i64 0] 63)).drewN nq) = w1 at HO1 HK1 HX HY hs1 ⊢
        have hbase2 : w0.heap.size ≤ w.heap.size + 1 := by omega
        have l55 : w.heap.size + 1 < w1.heap.size := by omega
        have l56 : w.heap.size < w1.heap.size := by omega
        clear x1 l1 u1 z1 u1' z1' u3 z3 l2 l3 l4 l5 hs1
        go_wp2_with fail
        obtain ⟨x5, x6⟩ := HX.out.cells2
        go_still_tail 9, (by kernel_rfl)
        clear x5 x6
        replace HO1 := Lib.hid (HO1.out.below (Below.refl w1.heap.size w1).drew)
        replace HK1 := Lib.hid (HK1.out.trans (Kp.of _ (Below.refl w1.heap.size w1).drew))
        replace HX := Lib.hid (HX.out.next (Below.refl w1.heap.size w1).drew)
        replace HY := Lib.hid (HY.out.next (Below.refl w1.heap.size w1).drew)
        go_wp2_with (go_at_call 36; refine (ih (2 * i) xs (m + 1) (.slice vA vn vc) _ c c' (2 * (i : Int)) ((m : Int) + 1) (by omega) (by omega) HA.out HB.out (by rw [hM]; exact h2i) hcN hcN' HO1.out (by have := HP.out; omega) (by have := HP.out; omega)).mono ?_)
        rintro e wn ⟨v2, rfl, ho2, hk2⟩
        obtain ⟨A2, n2, c2, rfl⟩ := ho2.form
        obtain ⟨⟨ys, r⟩, hyr⟩ : ∃ r, dv a b k (2 * i) (xs, m + 1) = r := ⟨_, rfl⟩
        have HL1 := Lib.hid (dv_len a b k (2 * i) (xs, m + 1))
        have HL2 := Lib.hid (dv_num a b k (2 * i) (xs, m + 1))
        rw [hyr] at ho2 HL1 HL2 ⊢
        have HO2 := Lib.hid ho2
        have HK2 := Lib.hid (HK1.out.trans hk2)
        have HX2 := Lib.hid (hk2.bx HX.out HN1.out)
        have HY2 := Lib.hid (hk2.bx HY.out HN2.out)
        have HN12 := Lib.hid (hk2.off HX.out.lt HN1.out)
        have HN22 := Lib.hid (hk2.off HY.out.lt HN2.out)
        have HYR := Lib.hid hyr
        clear ho2 hk2 hyr HO1 HK1 HX HY l55 l56
        obtain ⟨x5, x6⟩ := HX2.out.cells2
        have f0 := HX2.out.free 0
        have f1 := HX2.out.free 1
        have l8 : w.heap.size < wn.heap.size := HX2.out.lt
        have l9 : w.heap.size + 1 < wn.heap.size := HY2.out.lt
        go_wp2_with fail
        have HX3 : Hid (Bx ((wn.setCell ⟨w.heap.size, 0, none⟩ (.slice A2 n2 c2)).setCell ⟨w.heap.size, 1, none⟩ (.int .i64 (r : Int))) w.heap.size 63 #[.slice A2 n2 c2, .int .i64 (r : Int)]) := Lib.hid ((HX2.out.set 0 _).set 1 _)
        have HY3 : Hid (Bx ((wn.setCell ⟨w.heap.size, 0, none⟩ (.slice A2 n2 c2)).setCell ⟨w.heap.size, 1, none⟩ (.int .i64 (r : Int))) (w.heap.size + 1) 63 #[.slice none 0 0, .int .i64 0]) := Lib.hid (HY2.out.far2 (by omega) _ _)
        have HO3 : Hid (Ow .i64 3 w0.heap.size w0 ((wn.setCell ⟨w.heap.size, 0, none⟩ (.slice A2 n2 c2)).setCell ⟨w.heap.size, 1, none⟩ (.int .i64 (r : Int))) (.slice A2 n2 c2) ys) := Lib.hid ((HO2.out.set hbase HN12.out _ _).set hbase HN12.out _ _)
        have HK3 : Hid (Kp w ((wn.setCell ⟨w.heap.size, 0, none⟩ (.slice A2 n2 c2)).setCell ⟨w.heap.size, 1, none⟩ (.int .i64 (r : Int))) (.slice vA vn vc) (.slice A2 n2 c2)) := Lib.hid ((HK2.out.set (Nat.le_refl _) _ _).set (Nat.le_refl _) _ _)
        generalize ((wn.setCell ⟨w.heap.size, 0, none⟩ (.slice A2 n2 c2)).setCell ⟨w.heap.size, 1, none⟩ (.int .i64 (r : Int))) = w3 at HX3 HY3 HO3 HK3 ⊢
        clear x5 x6 f0 f1 l8 l9 HX2 HY2 HO2 HK2
        obtain ⟨x5, x6⟩ := HX3.out.cells2
        go_still_tail 10, (by kernel_rfl)
        clear x5 x6
        replace HO3 := Lib.hid (HO3.out.below (Below.refl w3.heap.size w3).drew)
        replace HK3 := Lib.hid (HK3.out.trans (Kp.of _ (Below.refl w3.heap.size w3).drew))
        replace HX3 := Lib.hid (HX3.out.next (Below.refl w3.heap.size w3).drew)
        replace HY3 := Lib.hid (HY3.out.next (Below.refl w3.heap.size w3).drew)
        go_wp2_with (go_loud (go_at_call 36; refine (ih (2 * i + 1) ys r (.slice A2 n2 c2) _ c c' (2 * (i : Int) + 1) (r : Int) (by omega) rfl HA.out HB.out (by rw [hM]; exact h2j) hcN hcN' HO3.out (by have h1 := HP.out; have h2 : ys.length ≤ xs.length + 2 ^ k := HL1.out; omega) (by have h1 := HP.out; have h2 : r + 1 ≤ m + 1 + 2 ^ (k + 1) := HL2.out; omega)).mono ?_))
        rintro e w4 ⟨v3, rfl, ho4, hk4⟩
        obtain ⟨A4, n4, c4, rfl⟩ := ho4.form
        have HE2 : Hid (dv a b (k + 1) i (xs, m) = dv a b k (2 * i + 1) (ys, r)) := Lib.hid (by rw [HE.out, HYR.out])
        obtain ⟨⟨zs, s⟩, hzs⟩ : ∃ x, dv a b k (2 * i + 1) (ys, r) = x := ⟨_, rfl⟩
        rw [hzs] at ho4 HE2 ⊢
        have HO4 := Lib.hid ho4
        have HK4 := Lib.hid (HK3.out.trans hk4)
        have HY4 := Lib.hid (hk4.bx HY3.out HN22.out)
        have HN24 := Lib.hid (hk4.off HY3.out.lt HN22.out)
        clear ho4 hk4 hzs HO3 HK3 HX3 HY3 HE HYR
        obtain ⟨y5, y6⟩ := HY4.out.cells2
        have f2 := HY4.out.free 0
        have f3 := HY4.out.free 1
        have l7 : w.heap.size + 1 < w4.heap.size := HY4.out.lt
        go_wp2_with fail
        have z0 : Bx (w4.setCell ⟨w.heap.size + 1, 0, none⟩ (.slice A4 n4 c4)) (w.heap.size + 1) 63 #[.slice A4 n4 c4, .int .i64 0] := HY4.out.set 0 _
        have z1 := z0.set 1 (.int .i64 (s : Int))
        have c1 := z0.cells2.1
        have c2' := z1.cells2
        refine bodyPost_ret (v := .agg #[.slice A4 n4 c4, .int .i64 (s : Int)]) (by simp [results, Try.results36, go_sem, c1, c2'.1, c2'.2]) rfl ?_
        rw [HE2.out]
        exact ⟨_, rfl, (HO4.out.set hbase2 HN24.out _ _).set hbase2 HN24.out _ _, (HK4.out.set (by omega) _ _).set (by omega) _ _⟩
end Go.Proofs.Ytbhdghopdhehdaa.Wk
