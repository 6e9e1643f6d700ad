/- Frame in the layer. Conditions: the bytes read as the list; at most 100000 bytes. -/
import Derived.Test.YtppgaddjjlcfcaaFc
import Derived.Test.YtppgaddjjlcfcaaWr
set_option linter.unusedSimpArgs false
set_option linter.unusedVariables false
namespace Go.Proofs.Ytppgaddjjlcfcaa.Wk
open Go.RowKit
open Go.Proofs.Ytppgaddjjlcfcaa.Mt
theorem frP_len {zs : List Int} {n : Nat} {t : Int} : (frP zs n t).length ≤ 65536 := by
  unfold frP
  split
  · unfold teL
    split
    · next h =>
      unfold Mt.sub
      rw [List.length_take]
      have h2 : ¬ 65536 < nuV zs n (t + 1) := by
        intro h3
        by_cases h0 : nuE zs n (t + 1) = 0
        · by_cases h1 : nuV zs n (t + 1) < 0
          · omega
          · rw [te_long h0 h1 h3] at h; cases h
        · rw [te_num h0] at h; exact h0 h
      omega
    · exact Nat.zero_le _
  · exact Nat.zero_le _
theorem Rk.src {w : World} {B n : Nat} {A : Option Addr} {zs : List Int} (h : Rk .u8 w B A n zs) : ∀ ad, A = some ad → ∀ j u, (vk .u8 zs)[j]? = some u → w.cell? (ad.add j) = some u := by
  intro ad ha j u hu
  have hj : j < zs.length := by have := (List.getElem?_eq_some_iff.1 hu).1; simpa [vk] using this
  have hjn : j < n := by rw [← h.1]; exact hj
  obtain ⟨b, off, e, _, hc⟩ := h.get hjn
  rw [ha] at e
  injection e with e
  subst e
  rw [vk_at _ _ _ hj] at hu
  injection hu with hu
  subst hu
  have e : (⟨b, off, none⟩ : Addr).add j = ⟨b, off + j, none⟩ := by unfold Addr.add; by_cases hj : j = 0 <;> simp [hj]
  rw [e]
  exact hc
set_option maxHeartbeats 4000000 in
set_option maxRecDepth 100000 in
theorem frame26 (A : Option Addr) (n c : Nat) (t : Int) (zs : List Int) (w : World) (h : Rk .u8 w w.heap.size A n zs) (hn : n ≤ 100000) (hc : n ≤ c) (hcc : c ≤ 9223372036854775807) : Calls Try.prog 26 #[.slice A n c, .int .i64 t] w fun e w' => ∃ v, e = .returned (.tuple #[.int .i64 (frK zs n t), v, .int .i64 (frN zs n t), .int .i64 (frE zs n t)]) ∧ Ob w.heap.size w' v (frP zs n t) ∧ Below w.heap.size w w' := by
  have hmf : ∀ (fn : Fn) (first cap : Array Value) (w : World), (Instr.makeFunc fn first cap).run Try.prog w = .ok (.func fn first cap) w := fun _ _ _ _ => rfl
  obtain ⟨g, hg⟩ : ∃ g, w.heap.size = g := ⟨_, rfl⟩
  have HX1 : Hid (Bx (w.alloc (.cells #[.slice A n c, .int .i64 t] 57)) g 57 #[.slice A n c, .int .i64 t]) := Lib.hid (Bx.newAt hg)
  have HX4 : Hid (Bx ((((w.alloc (.cells #[.slice A n c, .int .i64 t] 57)).alloc (.cells #[.int .i64 0] 3)).alloc (.cells #[.slice none 0 0] 22)).alloc (.cells #[.int .i64 0] 29)) g 57 #[.slice A n c, .int .i64 t]) := Lib.hid (((HX1.out.alloc _).alloc _).alloc _)
  have HK2 : Hid (Bx ((w.alloc (.cells #[.slice A n c, .int .i64 t] 57)).alloc (.cells #[.int .i64 0] 3)) (g + 1) 3 #[.int .i64 0]) := Lib.hid (Bx.newAt (by simp; omega))
  have HK4 : Hid (Bx ((((w.alloc (.cells #[.slice A n c, .int .i64 t] 57)).alloc (.cells #[.int .i64 0] 3)).alloc (.cells #[.slice none 0 0] 22)).alloc (.cells #[.int .i64 0] 29)) (g + 1) 3 #[.int .i64 0]) := Lib.hid ((HK2.out.alloc _).alloc _)
  have HP3 : Hid (Bx (((w.alloc (.cells #[.slice A n c, .int .i64 t] 57)).alloc (.cells #[.int .i64 0] 3)).alloc (.cells #[.slice none 0 0] 22)) (g + 2) 22 #[.slice none 0 0]) := Lib.hid (Bx.newAt (by simp; omega))
  have HP4 : Hid (Bx ((((w.alloc (.cells #[.slice A n c, .int .i64 t] 57)).alloc (.cells #[.int .i64 0] 3)).alloc (.cells #[.slice none 0 0] 22)).alloc (.cells #[.int .i64 0] 29)) (g + 2) 22 #[.slice none 0 0]) := Lib.hid (HP3.out.alloc _)
  have HE4 : Hid (Bx ((((w.alloc (.cells #[.slice A n c, .int .i64 t] 57)).alloc (.cells #[.int .i64 0] 3)).alloc (.cells #[.slice none 0 0] 22)).alloc (.cells #[.int .i64 0] 29)) (g + 3) 29 #[.int .i64 0]) := Lib.hid (Bx.newAt (by simp; omega))
  have HB4 : Hid (Below w.heap.size w ((((w.alloc (.cells #[.slice A n c, .int .i64 t] 57)).alloc (.cells #[.int .i64 0] 3)).alloc (.cells #[.slice none 0 0] 22)).alloc (.cells #[.int .i64 0] 29))) := Lib.hid ((((b1 w _).alloc (by simp) _).alloc (by simp; omega) _).alloc (by simp; omega) _)
  have HZ4 := Lib.hid (h.below HB4.out (Nat.le_refl _))
  have HG := Lib.hid hg
  have HS3 : Hid ((((w.alloc (.cells #[.slice A n c, .int .i64 t] 57)).alloc (.cells #[.int .i64 0] 3)).alloc (.cells #[.slice none 0 0] 22)).heap.size = g + 3) := Lib.hid (by simp; omega)
  clear h
  go_enter Try.func26, Try.ntmps26
  by_cases hE : frE zs n t = 0
  · have hcl := clo41_ok g (g + 1) (g + 2) (g + 3) n c A t zs g _ HX4.out HK4.out HP4.out HE4.out (by have := HZ4.out; rw [HG.out] at this; exact this) (Nat.le_refl _) (by omega) (by omega) (by omega) (by omega) (by omega) (by omega) (by omega) (by omega) hn hc hcc hE
    have hrun := run_ok41 _ (((w.alloc (.cells #[.slice A n c, .int .i64 t] 57)).alloc (.cells #[.int .i64 0] 3)).alloc (.cells #[.slice none 0 0] 22)) _ (by rw [HS3.out]; exact hcl)
    have hpln := frP_len (zs := zs) (n := n) (t := t)
    obtain ⟨pl, hpl⟩ : ∃ v, frP zs n t = v := ⟨_, rfl⟩
    rw [hpl] at hpln
    obtain ⟨kk, hk⟩ : ∃ v, frK zs n t = v := ⟨_, rfl⟩
    obtain ⟨nx, hnx⟩ : ∃ v, frN zs n t = v := ⟨_, rfl⟩
    rw [hpl, hk, hnx] at hrun
    have HR := Lib.hid hrun
    rw [hpl, hk, hnx, hE]
    clear hcl hrun hE hpl hk hnx
    go_wp2_with fail
    refine HR.out.mono ?_
    rintro e w2 ⟨rfl, w1, ⟨A', c', r1, r2, r3, hA', r4, r5⟩, hb⟩
    rw [HS3.out] at hb
    have HQ1 := Lib.hid (r1.below hb (by omega))
    have HQ2 := Lib.hid (r2.below hb (by omega))
    have HQ3 := Lib.hid (r3.below hb (by omega))
    have HRK := Lib.hid (r4.below (hb.mono (show g ≤ g + 3 by omega)) (Nat.le_refl _))
    have HF : Hid (Below w.heap.size w w2) := Lib.hid (by
      have h3 := HB4.out
      rw [HG.out] at h3 ⊢
      exact (h3.trans r5).trans (hb.mono (by omega)))
    clear r1 r2 r3 r4 r5 hb
    obtain ⟨i0, hi0, hz0, hs0, hb0'⟩ := info_parts u8_info
    have HB0 := Lib.hid hb0'
    have HA := Lib.hid hA'
    obtain ⟨d0, d1⟩ := HQ1.out.cells2
    have d2 := (HQ2.out.cell 0).trans rfl
    have d3 : w2.cell? ⟨g + 1 + 1, 0, none⟩ = some (.slice A' pl.length c') := (HQ3.out.cell 0).trans rfl
    have HSS : Hid (w2.cell? ⟨g + 1, 0, none⟩ = some (.int .i64 kk) ∧ w2.cell? ⟨g + 1 + 1, 0, none⟩ = some (.slice A' pl.length c') ∧ w2.cell? ⟨g, 1, none⟩ = some (.int .i64 nx)) := Lib.hid ⟨d2, d3, d1⟩
    have HL2 : Hid (g + 1 + 1 < w2.heap.size) := Lib.hid HQ3.out.lt
    have l1 := HQ1.out.lt
    have l2 := HQ2.out.lt
    have l3 := HL2.out
    have HPL : Hid (pl.length ≤ 9223372036854775807) := Lib.hid HRK.out.2.1
    have HP1 := Lib.hid hpln
    have C4 : Hid (0 + pl.length ≤ maxLen) := Lib.hid (by unfold maxLen; omega)
    have C5 : Hid ((0 + pl.length) * 1 ≤ 140737488355328) := Lib.hid (by omega)
    have HSZ : Hid (w.heap.size ≤ w2.heap.size) := Lib.hid HF.out.size
    have HSRC : Hid (∀ ad, A' = some ad → ∀ j u, (vk .u8 pl)[j]? = some u → w2.cell? (ad.add j) = some u) := Lib.hid (Rk.src HRK.out)
    clear hA' hb0' hpln
    go_wp2_with fail
    first | (go_region_held_law (fun w' => w'.cell? ⟨g + 1, 0, none⟩ = some (.int .i64 kk) ∧ w'.cell? ⟨g + 1 + 1, 0, none⟩ = some (.slice A' pl.length c') ∧ w'.cell? ⟨g, 1, none⟩ = some (.int .i64 nx)) (first | exact HSS.out | exact HSS9.out) (first
      | (refine Rot.step_append_any (.const (.slice none 0 0)) (.tmp 21) 22 rfl (by rfl) w.heap.size 5 i0 (.int .u8 0) 1 1 Try.underlying22 hi0 hz0 hs0 HB0.out rfl (by omega) (.slice none 0 0) 0 [] (by first | (simp [Act.eval, Act.put]; done) | (simp [Act.eval, Act.put]; rfl)) (World.ownsRow_nil _ _ _ _) A' pl.length c' (vk .u8 pl) (by first | (simp [Act.eval, Act.put]; done) | (simp [Act.eval, Act.put]; rfl)) (by rw [Nat.mul_one]; simp only [vk, List.length_map]) (fun h => absurd h HA.out) HSRC.out (vk_one _) C4.out C5.out HSZ.out ?_; intro v9 w9 hown hgrow; have HO9 : Hid (Ob w.heap.size w9 v9 pl) := Lib.hid (by unfold Ob; simpa using hown); have hb9 : Below w2.heap.size w2 w9 := (Below.refl _ _).drew.grown hgrow (Nat.le_refl _) (fun k hk => by cases hk); have HB9 := Lib.hid hb9; have HSS9 : Hid (w9.cell? ⟨g + 1, 0, none⟩ = some (.int .i64 kk) ∧ w9.cell? ⟨g + 1 + 1, 0, none⟩ = some (.slice A' pl.length c') ∧ w9.cell? ⟨g, 1, none⟩ = some (.int .i64 nx)) := Lib.hid ⟨(hb9.cell (p := ⟨g + 1, 0, none⟩) (by show g + 1 < _; omega)).trans HSS.out.1, (hb9.cell (p := ⟨g + 1 + 1, 0, none⟩) (by show g + 1 + 1 < _; omega)).trans HSS.out.2.1, (hb9.cell (p := ⟨g, 1, none⟩) (by show g < _; omega)).trans HSS.out.2.2⟩; clear hown hgrow hb9))) | fail
    all_goals
      have HF9 : Hid (Below w.heap.size w w9) := Lib.hid (HF.out.trans (HB9.out.mono HSZ.out))
      go_wp2_with fail
      refine bodyPost_ret (v := .tuple #[.int .i64 kk, v9, .int .i64 nx, .int .i64 0]) (by simp [results, Try.results26, go_sem]) rfl ?_
      exact ⟨_, rfl, by first | exact HO9.out | (have h9 := HO9.out; rw [HG.out] at h9; exact h9), by first | exact HF9.out | (have h9 := HF9.out; rw [HG.out] at h9; exact h9)⟩
  · have hcl := clo41_fail g (g + 1) (g + 2) (g + 3) n c A t zs g _ HX4.out HE4.out (by have := HZ4.out; rw [HG.out] at this; exact this) (Nat.le_refl _) (by omega) hn hc hcc hE
    have hrun := run_fail41 _ (((w.alloc (.cells #[.slice A n c, .int .i64 t] 57)).alloc (.cells #[.int .i64 0] 3)).alloc (.cells #[.slice none 0 0] 22)) _ _ (by rw [HS3.out]; exact hcl)
    obtain ⟨z1, z2, z3⟩ := fr_no hE
    obtain ⟨er, her⟩ : ∃ er, frE zs n t = er := ⟨_, rfl⟩
    rw [her] at hrun hE
    rw [z1, z2, z3, her]
    have HR := Lib.hid hrun
    have e1 : (er != 0) = true := by simp [hE]
    clear hcl hrun hE z1 z2 z3 her
    go_wp2_with fail
    refine HR.out.mono ?_
    rintro e w2 ⟨rfl, w1, r1, hb⟩
    rw [HS3.out] at hb
    have HF : Hid (Below w.heap.size w w2) := Lib.hid (by
      have h3 := HB4.out
      rw [HG.out] at h3 ⊢
      exact (h3.trans r1).trans (hb.mono (by omega)))
    clear r1 hb
    go_wp2_with fail
    refine bodyPost_ret (v := .tuple #[.int .i64 0, .slice none 0 0, .int .i64 0, .int .i64 er]) (by simp [results, Try.results26, go_sem]) rfl ?_
    exact ⟨_, rfl, Ob.nil _ _, HF.out⟩
end Go.Proofs.Ytppgaddjjlcfcaa.Wk
