/- The law of the order of a sum's amounts, walked. Conditions: the arguments read as numbers; the table reads as it is laid. -/
import Derived.Test.YtjipcopfggnlkaaDoorRot
import Derived.Deep.CutRange
import Derived.StillTailTactics
set_option linter.unusedSimpArgs false
set_option linter.unusedVariables false
namespace Go.Proofs.YtjipcopfggnlkaaDoor.Mt
open Go
theorem su_sum (zs : List Int) : ∀ k, su zs k = (zs.take k).sum := by
  intro k
  induction k with
  | zero => rfl
  | succ k ih =>
    rw [su, ih]
    rcases Nat.lt_or_ge k zs.length with h | h
    · rw [List.take_succ_eq_append_getElem h, List.sum_append]
      unfold iat
      rw [List.getD_eq_getElem?_getD, List.getElem?_eq_getElem h]
      simp
    · rw [List.take_of_length_le h, List.take_of_length_le (by omega)]
      unfold iat
      rw [List.getD_eq_getElem?_getD, List.getElem?_eq_none h]
      simp
theorem su_all (zs : List Int) : su zs zs.length = zs.sum := by rw [su_sum, List.take_length]
theorem sum_perm {a b : List Int} (h : a.Perm b) : a.sum = b.sum := by
  induction h with
  | nil => rfl
  | cons x _ ih => rw [List.sum_cons, List.sum_cons, ih]
  | swap x y l => rw [List.sum_cons, List.sum_cons, List.sum_cons, List.sum_cons]; omega
  | trans _ _ i1 i2 => exact i1.trans i2
theorem to_perm {a b : List Int} (h : a.Perm b) : toE a = toE b ∧ toV a = toV b := by
  have e : toE a = toE b := by
    unfold toE
    rw [su_all, su_all, sum_perm h]
    have : (∀ x ∈ a, fitB x = true) ↔ (∀ x ∈ b, fitB x = true) := ⟨fun g x hx => g x (h.mem_iff.2 hx), fun g x hx => g x (h.mem_iff.1 hx)⟩
    simp only [this]
  refine ⟨e, ?_⟩
  unfold toV
  rw [e, su_all, su_all, sum_perm h]
theorem sm_perm {a b : List Int} (h : a.Perm b) : smE a = smE b ∧ smV a = smV b := by
  unfold smE smV
  rw [h.length_eq, (to_perm h).1, (to_perm h).2]
  exact ⟨rfl, rfl⟩
theorem turn_perm (zs : List Int) (t : Nat) : (zs.drop t ++ zs.take t).Perm zs := by
  have := List.perm_append_comm (l₁ := zs.drop t) (l₂ := zs.take t)
  rwa [List.take_append_drop] at this
theorem sm_two (a b : Int) : smV [a, b] = toV [a, b] ∧ smE [a, b] = toE [a, b] := ⟨if_neg (by show ¬ 1024 < 2; decide), if_neg (by show ¬ 1024 < 2; decide)⟩
end Go.Proofs.YtjipcopfggnlkaaDoor.Mt
namespace Go.Proofs.YtjipcopfggnlkaaDoor.Wk
open Go.RowKit
open Go.Proofs.YtjipcopfggnlkaaDoor.Mt Go.Proofs.YtjipcopfggnlkaaDoor.Rot
theorem ints_one (l : List Int) : ∀ u ∈ l.map (Value.int .i64), u.oneCell' = true := by
  intro u hu
  rw [List.mem_map] at hu
  obtain ⟨x, _, rfl⟩ := hu
  rfl
theorem src_c {w W : World} {n b off s m : Nat} {zs : List Int} (h : Rk .i64 w w.heap.size (some ⟨b, off, none⟩) n zs) (hb : Below w.heap.size w W) (hs : s + m ≤ n) :
    ∀ ad, some (⟨b, off + s, none⟩ : Addr) = some ad → ∀ j u, (((zs.drop s).take m).map (Value.int .i64))[j]? = some u → W.cell? (ad.add j) = some u := by
  intro ad e j u hu
  injection e with e
  subst e
  have hl : zs.length = n := h.1
  have hj : j < m := by
    rcases Nat.lt_or_ge j m with h | h
    · exact h
    · rw [List.getElem?_map, List.getElem?_take, if_neg (by omega)] at hu
      cases hu
  have hc := (h.up hb).two (i := s + j) (by omega)
  rw [List.getElem?_map, List.getElem?_take, if_pos hj, List.getElem?_drop, List.getElem?_eq_getElem (by omega)] at hu
  simp at hu
  have e : iat zs (s + j) = zs[s + j]'(by omega) := by unfold iat; rw [List.getD_eq_getElem?_getD, List.getElem?_eq_getElem (by omega)]; rfl
  rw [e, hu] at hc
  have ea : (⟨b, off + s, none⟩ : Addr).add j = ⟨b, off + (s + j), none⟩ := by
    unfold Addr.add
    by_cases h : j = 0 <;> simp [h, Nat.add_assoc]
  rw [ea]
  exact hc
theorem wf_perm {a b : List Int} (h : a.Perm b) (hw : ∀ i, (Lit.int .i64 (iat b i)).wf = true) (i : Nat) : (Lit.int .i64 (iat a i)).wf = true := by
  rcases Nat.lt_or_ge i a.length with h1 | h1
  · obtain ⟨j, hj, e⟩ := mem_iat.1 (h.mem_iff.1 (mem_iat.2 ⟨i, h1, rfl⟩))
    rw [← e]
    exact hw j
  · have e : iat a i = 0 := by unfold iat; rw [List.getD_eq_getElem?_getD, List.getElem?_eq_none h1]; rfl
    rw [e]
    decide
theorem rk_turned {w3 : World} {base g2 k t c2 : Nat} {zs : List Int} (hz : zs.length = k) (ht : t ≤ k) (hk : k ≤ 9223372036854775807) (hw : ∀ i, (Lit.int .i64 (iat zs i)).wf = true)
    (ho : w3.ownsRow base 3 1 (.slice (some ⟨g2, 0, none⟩) ((k - t) + t) c2) ((k - t) + t) (((zs.drop t).take (k - t)).map (Value.int .i64) ++ ((zs.drop 0).take t).map (Value.int .i64))) :
    Rk .i64 w3 w3.heap.size (some ⟨g2, 0, none⟩) k (zs.drop t ++ zs.take t) := by
  have e1 : (zs.drop t).take (k - t) = zs.drop t := List.take_of_length_le (by simp; omega)
  have e2 : (zs.drop t ++ zs.take t).length = k := by simp; omega
  have e3 : (k - t) + t = k := by omega
  rw [e1, List.drop_zero, ← List.map_append, e3] at ho
  have ho2 : w3.ownsRow base 3 1 (.slice (some ⟨g2, 0, none⟩) k c2) (zs.drop t ++ zs.take t).length (vk .i64 (zs.drop t ++ zs.take t)) := by rw [e2]; exact ho
  obtain ⟨A, c, e, hr⟩ := Rk.owned ho2 (by rw [e2]; exact hk) (wf_perm (turn_perm zs t) hw)
  injection e with e
  rw [← e, e2] at hr
  exact hr
set_option maxHeartbeats 8000000 in
set_option maxRecDepth 100000 in
theorem orders_law (A : Option Addr) (n c : Nat) (zs : List Int) (t : Int) (w : World) (h : Sl w A n c zs) (ht64 : In64 t) (ht : Tb w) : Calls Tryd.prog 10 #[.slice A n c, .int .i64 t] w fun e w' => e = .returned (.bool true) ∧ Below w.heap.size w w' := by
  have HT := Lib.hid ht
  have HZ := Lib.hid h.rk
  have hnc := h.le
  have hcm := h.cap
  clear h ht
  by_cases h1 : n = 0
  · subst h1
    have d1 : (((0 : Nat) : Int) == 0) = true := rfl
    go_enter Tryd.func10, Tryd.ntmps10
    go_wp2_with fail
    refine (awake11 w HT.out).mono ?_
    rintro e w1 ⟨rfl, hb⟩
    have HB := Lib.hid hb
    clear hb
    go_wp2_with fail
    go_ret
    exact ⟨rfl, HB.out⟩
  have d1 : ((n : Int) == 0) = false := by simp; omega
  by_cases h2 : 1100 < n
  · have d2 : decide ((1100 : Int) < (n : Int)) = true := decide_eq_true (by omega)
    go_enter Tryd.func10, Tryd.ntmps10
    go_wp2_with fail
    refine (awake11 w HT.out).mono ?_
    rintro e w1 ⟨rfl, hb⟩
    have HB := Lib.hid hb
    clear hb
    go_wp2_with fail
    go_ret
    exact ⟨rfl, HB.out⟩
  have d2 : decide ((1100 : Int) < (n : Int)) = false := decide_eq_false (by omega)
  by_cases h3 : t < 0
  · have d3 : decide (t < 0) = true := decide_eq_true h3
    go_enter Tryd.func10, Tryd.ntmps10
    go_wp2_with fail
    refine (awake11 w HT.out).mono ?_
    rintro e w1 ⟨rfl, hb⟩
    have HB := Lib.hid hb
    clear hb
    go_wp2_with fail
    go_ret
    exact ⟨rfl, HB.out⟩
  have d3 : decide (t < 0) = false := decide_eq_false h3
  by_cases h4 : (n : Int) ≤ t
  · have d4 : decide ((n : Int) ≤ t) = true := decide_eq_true h4
    go_enter Tryd.func10, Tryd.ntmps10
    go_wp2_with fail
    refine (awake11 w HT.out).mono ?_
    rintro e w1 ⟨rfl, hb⟩
    have HB := Lib.hid hb
    clear hb
    go_wp2_with fail
    go_ret
    exact ⟨rfl, HB.out⟩
  obtain ⟨k, rfl⟩ : ∃ k : Nat, t = (k : Int) := ⟨t.toNat, by omega⟩
  have d4 : decide ((n : Int) ≤ (k : Int)) = false := decide_eq_false h4
  have hkn : k < n := by omega
  obtain ⟨b, off, rfl, hbl, hc0⟩ := HZ.out.get (i := 0) (by omega)
  rw [Nat.add_zero] at hc0
  have hck := HZ.out.two hkn
  obtain ⟨x, hx⟩ : ∃ x, iat zs 0 = x := ⟨_, rfl⟩
  obtain ⟨y, hy⟩ : ∃ x, iat zs k = x := ⟨_, rfl⟩
  rw [hx] at hc0
  rw [hy] at hck
  have HX := Lib.hid (i64_r (by rw [← hx]; exact HZ.out.2.2.2 0) : In64 x)
  have HY := Lib.hid (i64_r (by rw [← hy]; exact HZ.out.2.2.2 k) : In64 y)
  have HL := Lib.hid HZ.out.1
  have hn9 := HZ.out.2.1
  clear hx hy h1 h2 h3 h4 ht64
  obtain ⟨i0, hi0, hz0, hs0, hb0'⟩ := info_parts int_info
  have OWN : Hid ((w.drew.alloc (.cells #[] 3)).ownsRow w.heap.size 3 1 (.slice (some ⟨w.heap.size, 0, none⟩) 0 0) 0 []) := Lib.hid (World.ownsRow_lit (e := 3) w.drew #[] 0 (Nat.le_refl _) (by unfold maxLen; omega) rfl)
  have HWA : Hid (Below w.heap.size w (w.drew.alloc (.cells #[] 3))) := Lib.hid (((Below.refl w.heap.size w).drew).alloc (Nat.le_refl _) (.cells #[] 3))
  have SRC := Lib.hid (src_c (s := k) (m := n - k) HZ.out HWA.out (by omega))
  have LEN : Hid ((((zs.drop k).take (n - k)).map (Value.int .i64)).length = (n - k) * 1) := Lib.hid (by have := HL.out; simp; omega)
  have LEN2 : Hid ((((zs.drop 0).take k).map (Value.int .i64)).length = k * 1) := Lib.hid (by have := HL.out; simp; omega)
  have B1 : Hid (0 + (n - k) ≤ maxLen) := Lib.hid (by unfold maxLen; omega)
  have B2 : Hid ((0 + (n - k)) * 8 ≤ 140737488355328) := Lib.hid (by have := decide_eq_false_iff_not.1 d2; omega)
  have B3 : Hid ((n - k) + k ≤ maxLen) := Lib.hid (by unfold maxLen; omega)
  have B4 : Hid (((n - k) + k) * 8 ≤ 140737488355328) := Lib.hid (by have := decide_eq_false_iff_not.1 d2; omega)
  have N1 : Hid (some (⟨b, off + k, none⟩ : Addr) = none → (n - k) = 0 ∧ (c - k) = 0) := Lib.hid (fun h => by cases h)
  have N2 : Hid (some (⟨b, off, none⟩ : Addr) = none → k = 0 ∧ c = 0) := Lib.hid (fun h => by cases h)
  have hkc : (k : Int) ≤ (c : Int) := by omega
  have hkn2 : (k : Int) ≤ (n : Int) := by omega
  have hck0 : k ≠ c := by omega
  go_enter Tryd.func10, Tryd.ntmps10
  go_wp2_with fail
  go_upto_region 3 with fail
  go_region_law (first
    | (refine step_append_any rfl (.tmp 33) (.tmp 36) 22 rfl w.heap.size 3 i0 (.int .i64 0) 1 8 Tryd.underlying22 hi0 hz0 hs0 hb0' rfl (by omega) w.heap.size 0 0 [] (by first | (simp [Act.eval, Act.put]; done) | (simp [Act.eval, Act.put]; omega)) OWN.out (some (⟨b, off + k, none⟩ : Addr)) (n - k) (c - k) (((zs.drop k).take (n - k)).map (Value.int .i64)) (by first | (simp [Act.eval, Act.put]; done) | (simp [Act.eval, Act.put]; omega)) LEN.out N1.out SRC.out (ints_one _) B1.out B2.out HWA.out.size ?_; intro g1 cap1 w2 ho hg; simp only [Nat.zero_add, List.nil_append] at ho; have HO1 := Lib.hid ho; have HW2 := Lib.hid (HWA.out.grown hg HWA.out.size (fun q hq => by injection hq with hq; omega)); have SRC2 := Lib.hid (src_c (s := 0) (m := k) HZ.out HW2.out (by omega)); clear ho hg)
    | (refine step_append_any rfl (.tmp 37) (.tmp 40) 22 rfl w.heap.size 3 i0 (.int .i64 0) 1 8 Tryd.underlying22 hi0 hz0 hs0 hb0' rfl (by omega) g1 (n - k) cap1 _ (by first | (simp [Act.eval, Act.put]; done) | (simp [Act.eval, Act.put]; omega)) HO1.out (some (⟨b, off, none⟩ : Addr)) k c (((zs.drop 0).take k).map (Value.int .i64)) (by first | (simp [Act.eval, Act.put]; done) | (simp [Act.eval, Act.put]; omega)) LEN2.out N2.out SRC2.out (ints_one _) B3.out B4.out HW2.out.size ?_; intro g2 cap2 w3 ho hg; have HO2 := Lib.hid ho; have HW3 := Lib.hid (HW2.out.grown hg HW2.out.size (fun q hq => by injection hq with hq; have := (HO1.out.lt g1 rfl).1; omega)); clear ho hg))
  have hkk : (n - k) + k = n := by omega
  have HM := Lib.hid (rk_turned HL.out (by omega) hn9 HZ.out.2.2.2 HO2.out)
  rw [hkk]
  have HZ3 := Lib.hid (HZ.out.up HW3.out)
  have hc0' := (HZ3.out.two (i := 0) (by omega))
  have hck' := HZ3.out.two hkn
  have e0 : iat zs 0 = x := by
    have := HZ.out.two (i := 0) (by omega)
    rw [Nat.add_zero, hc0] at this
    injection this with this
    injection this with _ this
    exact this.symm
  have ek : iat zs k = y := by
    have := HZ.out.two hkn
    rw [hck] at this
    injection this with this
    injection this with _ this
    exact this.symm
  rw [e0, Nat.add_zero] at hc0'
  rw [ek] at hck'
  have hb3 : b < w3.heap.size := by have := HW3.out.size; omega
  obtain ⟨V, hV⟩ : ∃ V, smV zs = V := ⟨_, rfl⟩
  obtain ⟨E, hE⟩ : ∃ E, smE zs = E := ⟨_, rfl⟩
  have HV2 : Hid (smV (zs.drop k ++ zs.take k) = V) := Lib.hid (by rw [(sm_perm (turn_perm zs k)).2, hV])
  have HE2 : Hid (smE (zs.drop k ++ zs.take k) = E) := Lib.hid (by rw [(sm_perm (turn_perm zs k)).1, hE])
  have HV := Lib.hid hV
  have HE := Lib.hid hE
  obtain ⟨V2, hV2⟩ : ∃ V, toV [x, y] = V := ⟨_, rfl⟩
  obtain ⟨E2, hE2⟩ : ∃ E, toE [x, y] = E := ⟨_, rfl⟩
  have HP := Lib.hid (sm_two x y)
  rw [hV2, hE2] at HP
  have HV3 := Lib.hid hV2
  have HE3 := Lib.hid hE2
  have e1 : (V == V) = true := by simp
  have e2 : (E == E) = true := by simp
  have e3 : (V2 == V2) = true := by simp
  have e4 : (E2 == E2) = true := by simp
  clear hV hE hV2 hE2 hkk hc0 hck e0 ek OWN HWA SRC LEN LEN2 B1 B2 B3 B4 N1 N2 HO1 HW2 SRC2 HO2 d1 d2 d3 d4 hi0 hz0 hs0 hb0' hkc hkn2 hck0
  go_wp2_with fail
  refine (sum14 _ n c zs w3 HZ3.out).mono ?_
  rintro e w4 ⟨rfl, hw⟩
  rw [hw, HV.out, HE.out]
  clear hw
  go_wp2_with fail
  refine (sum14 _ n cap2 _ w3 HM.out).mono ?_
  rintro e w4 ⟨rfl, hw⟩
  rw [hw, HV2.out, HE2.out]
  clear hw
  have hknI : (k : Int) < (n : Int) := by omega
  have h0nI : (0 : Int) < (n : Int) := by omega
  go_upto_region 6 with fail
  go_cut [10, 11] from 52 to 62 (fun s10 s11 wx => s10 = .int .i64 V2 ∧ s11 = .int .i64 E2 ∧ Below w3.heap.size w3 wx)
  case first =>
    go_region_with (go_at_call 12; refine (add12 x y _ HX.out HY.out).mono ?_; rintro e w' ⟨rfl, hbq⟩; rw [HV3.out, HE3.out])
    all_goals (go_wp2_with fail; go_meet; exact ⟨rfl, rfl, upB ((Below.refl w3.heap.size w3).drew) hbq⟩)
  case rest =>
  obtain ⟨rfl, rfl, hb5⟩ := hcut
  have HB5 := Lib.hid (upB HW3.out hb5)
  have hc5 := (HZ.out.up HB5.out).two (i := 0) (by omega)
  have hk5 := (HZ.out.up HB5.out).two hkn
  have hc3 := (HZ.out.up HW3.out).two (i := 0) (by omega)
  have hk3 := (HZ.out.up HW3.out).two hkn
  have e0 : iat zs 0 = x := by
    rw [Nat.add_zero, hc0'] at hc3
    injection hc3 with this
    injection this with _ this
    exact this.symm
  have ek : iat zs k = y := by
    rw [hck'] at hk3
    injection hk3 with this
    injection this with _ this
    exact this.symm
  rw [e0, Nat.add_zero] at hc5
  rw [ek] at hk5
  have hb3' : b < wc.heap.size := by have := HB5.out.size; omega
  clear hc0' hck' hc3 hk3 e0 ek hb5 hb3
  go_upto_region 7 with fail
  go_cut [12, 13] from 63 to 74 (fun s10 s11 wx => s10 = .int .i64 V2 ∧ s11 = .int .i64 E2 ∧ Below wc.heap.size wc wx)
  case first =>
    go_region_with (go_at_call 14; refine (sum14 _ 2 2 [x, y] _ ((rk_two wc x y HX.out HY.out).up ((Below.refl _ _).drew))).mono ?_; rintro e w' ⟨rfl, hw⟩; rw [hw, HP.out.1, HP.out.2]; clear hw)
    all_goals (go_wp2_with fail; go_meet; exact ⟨rfl, rfl, (b1 wc _).drew⟩)
  case rest =>
  obtain ⟨rfl, rfl, hb6⟩ := hcut
  replace HB5 := Lib.hid (upB HB5.out hb6)
  clear hc5 hk5 hb6
  go_wp2_with fail
  refine (awake11 _ (HT.out.next HB5.out)).mono ?_
  rintro e w6 ⟨rfl, hb⟩
  replace HB5 := Lib.hid (upB HB5.out hb)
  clear hb
  go_wp2_with fail
  go_ret
  exact ⟨rfl, HB5.out⟩
end Go.Proofs.YtjipcopfggnlkaaDoor.Wk
