/- The contract of the reference's Run. Conditions: the slices read as lists. -/
import Derived.Test.YtodkcnhdiddbkaaLawB
set_option linter.unusedSimpArgs false
set_option linter.unusedVariables false
namespace Go.Proofs.Ytodkcnhdiddbkaa.Wk
open Go.RowKit
open Go.Proofs.Ytodkcnhdiddbkaa.Mt
/-- as Wd, with the zero state that the reference keeps -/
structure Wr (w0 wr : World) (q : Nat) (b c t v : Int) (f : Fi) (vs : Value) (out : List Int) : Prop where
  wd : Wd w0 wr q b c t v f vs out
  hq : w0.heap.size + 2 < q
  nb : Bx wr (w0.heap.size + 2) 30 #[.int .i64 0, .int .i64 0, .int .i64 0]
section
variable {w0 wr w1 : World} {q : Nat} {b c t v : Int} {f : Fi} {vs : Value} {out : List Int}
theorem Wr.below (h : Wr w0 wr q b c t v f vs out) (hb : Below wr.heap.size wr w1) : Wr w0 w1 q b c t v f vs out := ⟨h.wd.below hb, h.hq, h.nb.next hb⟩
theorem Wr.setf (h : Wr w0 wr q b c t v f vs out) (f' : Fi) :
    Wr w0 (((wr.setCell ⟨q, 0, none⟩ (.int .i64 f'.s)).setCell ⟨q, 1, none⟩ (.int .i64 f'.f)).setCell ⟨q, 2, none⟩ (.int .i64 f'.n)) q b c t v f' vs out := ⟨h.wd.setf f', h.hq, h.nb.far3 (by have := h.hq; omega) _ _ _⟩
theorem Wr.app {vs' : Value} {x : Int} (h : Wr w0 wr q b c t v f vs out) (ho : w1.ownsRow (q + 1) 3 1 vs' (out.length + 1) (out.map (Value.int .i64) ++ [Value.int .i64 x])) {o : Obj} (hg : (wr.alloc o).grownBy w1 vs.ownBlock) : Wr w0 w1 q b c t v f vs' (out ++ [x]) := by
  refine ⟨h.wd.app ho hg, h.hq, ?_⟩
  have h1 := h.nb.alloc o
  refine (hg.block _ h1.lt (fun e => ?_)).trans h1
  have := (h.wd.ow.lt _ e.symm).1
  have := h.hq
  omega
theorem Wr.ncells (h : Wr w0 wr q b c t v f vs out) : wr.cell? ⟨w0.heap.size + 1 + 1, 0, none⟩ = some (.int .i64 0) ∧ wr.cell? ⟨w0.heap.size + 1 + 1, 1, none⟩ = some (.int .i64 0) ∧ wr.cell? ⟨w0.heap.size + 1 + 1, 2, none⟩ = some (.int .i64 0) := h.nb.cells3
end
theorem Suc_r {b c t v g n : Int} (w : World) :
    Calls Try.prog 17 #[.agg #[.int .i64 b, .int .i64 c, .int .i64 t, .int .i64 v], .agg #[.int .i64 2, .int .i64 g, .int .i64 n]] w
      fun e w' => e = .returned (.tuple #[.agg #[.int .i64 1, .int .i64 0, .int .i64 0], .int .i64 0]) ∧ Below w.heap.size w w' :=
  (Suc_any b c t v 2 g n w).mono fun e w' ⟨he, hb⟩ => ⟨by rw [he, suc_yes]; rfl, hb⟩
theorem chk_cents {b c t v : Int} (h : chk ⟨b, c, t, v⟩ = 0) : fit c = true := by
  unfold chk at h
  split at h
  · rename_i h1
    rw [show c = 0 from h1.2.1]; rfl
  · split at h
    · omega
    · rename_i h1
      rcases fot (fit c) with h2 | h2
      · exact absurd (.inr h2) h1
      · exact h2
theorem ad_parts {a b : Int} (ha : fit a = true) (h : (adS a b).2 = 0) : fit b = true ∧ fit (a + b) = true ∧ adS a b = (a + b, 0) := by
  unfold adS at h ⊢
  split at h
  · rename_i h1; rw [if_pos h1]; exact ⟨h1.2.1, h1.2.2, rfl⟩
  · simp at h
theorem ad_miss {a b : Int} (ha : fit a = true) (h : ¬ (adS a b).2 = 0) : fit b = false ∨ (fit b = true ∧ fit (a + b) = false) := by
  rcases fot (fit b) with h1 | h1
  · exact .inl h1
  · rcases fot (fit (a + b)) with h2 | h2
    · exact .inr ⟨h1, h2⟩
    · exact absurd (by rw [ad_yes ha h1 h2]) h

set_option maxHeartbeats 4000000 in
set_option maxRecDepth 100000 in
theorem Run_loop (b c t v bal : Int) (A : Option Addr) (n k0 : Nat) (zs : List Int) (A2 : Option Addr) (m k2 : Nat) (os : List Bool) (w : World) (h1 : Ri w w.heap.size A n zs) (h2 : Rb w w.heap.size A2 m os)
    (hc0 : chk ⟨b, c, t, v⟩ = 0) (h9 : ¬ 1024 < n) (hf : fit bal = true) :
    Calls Try.prog 23 #[.agg #[.int .i64 b, .int .i64 c, .int .i64 t, .int .i64 v], .int .i64 bal, .slice A n k0, .slice A2 m k2] w (RunPost w (runS ⟨b, c, t, v⟩ bal zs os)) := by
  have hn := h1.2.1
  have hm := h2.2.1
  have HL := Lib.hid h1.1
  have HM := Lib.hid h2.1
  have HR := Lib.hid h1
  have HO := Lib.hid h2
  have hv := chk_wait hc0
  simp only at hv
  have HV := Lib.hid hv
  have HCe := Lib.hid (chk_cents hc0)
  have HC := Lib.hid hc0
  have HF := Lib.hid hf
  have HN : Hid (rloop ⟨b, c, t, v⟩ os ⟨bal, ⟨1, 0, 0⟩, 0, []⟩ 0 zs = none → runS ⟨b, c, t, v⟩ bal zs os = ([], ⟨0, 0, 0⟩, 13)) := Lib.hid (fun h => run_none hc0 (by rw [h1.1]; exact h9) hf h)
  have HS : Hid (∀ st, rloop ⟨b, c, t, v⟩ os ⟨bal, ⟨1, 0, 0⟩, 0, []⟩ 0 zs = some st → runS ⟨b, c, t, v⟩ bal zs os = (st.out, st.f, 0)) := Lib.hid (fun st h => run_some hc0 (by rw [h1.1]; exact h9) hf h)
  clear h1 h2 hv hc0 hf
  obtain ⟨i0, hi0, hz0, hs0, hb0'⟩ := info_parts int_info
  go_enter Try.func23, Try.ntmps23
  go_wp2_with fail
  refine (Check_any b c t v _).mono ?_
  rintro e w1 ⟨he, hb1⟩
  rw [HC.out] at he
  subst he
  have hz1 : w.heap.size + 3 ≤ w1.heap.size := by have := hb1.size; simpa using this
  have HW1 : Hid (Bx w1 w.heap.size 23 #[.int .i64 b, .int .i64 c, .int .i64 t, .int .i64 v] ∧ Bx w1 (w.heap.size + 1) 30 #[.int .i64 0, .int .i64 0, .int .i64 0] ∧ Bx w1 (w.heap.size + 2) 30 #[.int .i64 0, .int .i64 0, .int .i64 0] ∧ Below w.heap.size w w1) := Lib.hid
    ⟨(((Bx.new _ _ _).alloc _).alloc _).next hb1, ((Bx.newAt (by simp)).alloc _).next hb1, (Bx.newAt (by simp)).next hb1, upB (b3 _ _ _ _) hb1⟩
  clear hb1
  go_wp2_with fail
  refine (Fits_yes _ _ HF.out).mono ?_
  rintro e _ ⟨rfl, rfl⟩
  go_wp2_with fail
  go_loopw [15, 14, 16, 17] (fun bl vs rq i wr => ∃ (k : Nat) (st : St), k ≤ n ∧ i = .int .i64 k ∧ bl = .int .i64 st.bal ∧ rq = .int .i64 st.req ∧ Hid (Wr w wr w1.heap.size b c t v st.f vs st.out) ∧ Hid (ok st k) ∧ Hid (rloop ⟨b, c, t, v⟩ os st k (zs.drop k) = rloop ⟨b, c, t, v⟩ os ⟨bal, ⟨1, 0, 0⟩, 0, []⟩ 0 zs)) (fun _ _ _ i _ => n - (intOf i).toNat)
  case atStart => exact ⟨0, ⟨bal, ⟨1, 0, 0⟩, 0, []⟩, Nat.zero_le _, rfl, rfl, rfl, Lib.hid ⟨⟨HW1.out.2.2.2.alloc (by omega) _, by omega, HW1.out.1.alloc _, HW1.out.2.1.alloc _, heap_alloc_new _ _, World.ownsRow_nil _ _ _ _⟩, by omega, HW1.out.2.2.1.alloc _⟩, Lib.hid ⟨HF.out, by simp, by simp, by simp, rfl⟩, Lib.hid rfl⟩
  case round =>
    obtain ⟨k, ⟨bl, ⟨fs, ff, fn⟩, rq, out⟩, hk, rfl, rfl, rfl, HD, HK, HB⟩ := hrel
    clear HW1
    by_cases hlt : k < n
    · obtain ⟨b0, off, rfl, hbB, c1⟩ := (HR.out.below HD.out.wd.bel (Nat.le_refl _)).at_ hlt
      obtain ⟨z, hz⟩ : ∃ z, zs.getD k 0 = z := ⟨_, rfl⟩
      rw [hz] at c1
      have HZ := Lib.hid hz
      have hlen : k < zs.length := by rw [HL.out]; omega
      have hblf : fit bl = true := HK.out.1
      clear hz
      by_cases hA : (adS bl z).2 = 0
      · have hap := ad_parts hblf hA
        have ⟨hbl0, hbl1⟩ := (fit_iff bl).1 hblf
        have ⟨hzz0, hzz1⟩ := (fit_iff z).1 hap.1
        have HZF := Lib.hid hap.1
        obtain ⟨bl1, hbe⟩ : ∃ x, bl + z = x := ⟨_, rfl⟩
        have HBE := Lib.hid hbe
        have HA : Hid (adS bl z = (bl1, 0)) := Lib.hid (by rw [hap.2.2, hbe])
        have HFI : Hid (fit bl1 = true) := Lib.hid (by rw [← hbe]; exact hap.2.1)
        have ⟨hbx0, hbx1⟩ := (fit_iff bl1).1 HFI.out
        clear hap hblf hA hbe
        obtain ⟨⟨⟨s1, g1, n1⟩, cts⟩, hs⟩ : ∃ p, stp ⟨b, c, t, v⟩ ⟨fs, ff, fn⟩ bl1 k = p := ⟨_, rfl⟩
        have HP := Lib.hid hs
        clear hs
        have hout : out.length ≤ 1024 := by have := HK.out.2.2.2.2; simp only at this; omega
        have hrq : rq ≤ 1024 := by have := HK.out.2.2.2.1; simp only at this; omega
        have hff0 : 0 ≤ ff := HK.out.2.1
        have hff1 : ff ≤ 1024 := by have := HK.out.2.2.1; simp only at this; omega
        have hffk : ff ≤ (k : Int) := HK.out.2.2.1
        have hrqk : rq ≤ k := HK.out.2.2.2.1
        have hok : out.length = k := HK.out.2.2.2.2
        have hg1 : g1 = ff := (stp_f HP.out).1
        have HOK := Lib.hid hok
        have hg0 : 0 ≤ g1 := by omega
        have hg2 : g1 ≤ 1024 := by omega
        have hgk : g1 ≤ (k : Int) := by omega
        clear hok hg1
        by_cases h0 : 0 < cts
        · have hs2 : s1 = 2 := ((stp_f HP.out).2 h0).1
          have hce : cts = c := ((stp_f HP.out).2 h0).2
          have HCF : Hid (fit cts = true) := Lib.hid (by rw [hce]; exact HCe.out)
          have ⟨hct0, hct1⟩ := (fit_iff cts).1 HCF.out
          clear hce
          subst hs2
          by_cases hq : rq < m ∧ os.getD rq false = true
          · have hq1 : (rq : Int) < (m : Int) := by omega
            have hq2 : rq < os.length ∧ os.getD rq false = true := by rw [HM.out]; exact hq
            have HQ := Lib.hid hq2
            obtain ⟨b9, off9, rfl, hb9, d1⟩ := HO.out.at_ hq.1
            rw [hq.2] at d1
            clear hq2
            by_cases hA2 : (adS bl1 cts).2 = 0
            · have hap := ad_parts HFI.out hA2
              have HA2 := Lib.hid hap.2.2
              have HF2 := Lib.hid hap.2.1
              obtain ⟨bl2, hbe2⟩ : ∃ x, bl1 + cts = x := ⟨_, rfl⟩
              have HB22 := Lib.hid hbe2
              have hA9 := HA2.out
              have hF9 := HF2.out
              rw [hbe2] at hA9 hF9
              have HA2 := Lib.hid hA9
              have HF2 := Lib.hid hF9
              clear hap hA2 hbe2 hA9 hF9
              have HB2 : Hid (rloop ⟨b, c, t, v⟩ os ⟨bl2, ⟨1, 0, 0⟩, rq + 1, out ++ [bl2]⟩ (k + 1) (zs.drop (k + 1)) = rloop ⟨b, c, t, v⟩ os ⟨bal, ⟨1, 0, 0⟩, 0, []⟩ 0 zs) := Lib.hid (by rw [← loop_some hlen (st := ⟨bl, ⟨fs, ff, fn⟩, rq, out⟩) (by rw [HZ.out]; exact (by have h7 := step_won (st := ⟨bl, ⟨fs, ff, fn⟩, rq, out⟩) HA.out HP.out h0 HQ.out HA2.out; rwa [suc_two rfl] at h7)), HB.out])
              have HK2 : Hid (ok ⟨bl2, ⟨1, 0, 0⟩, rq + 1, out ++ [bl2]⟩ (k + 1)) := Lib.hid ⟨HF2.out, by simp, by simp; omega, by simp; omega, by simp [HOK.out]⟩
              go_wp2_with fail
              refine (Fits_yes _ _ HZF.out).mono ?_
              rintro e _ ⟨rfl, rfl⟩
              go_wp2_with fail
              rw [HBE.out]
              refine (Fits_yes _ _ HFI.out).mono ?_
              rintro e _ ⟨rfl, rfl⟩
              obtain ⟨r0, r1, r2, r3⟩ := HD.out.wd.rcells
              obtain ⟨f0, f1, f2⟩ := HD.out.wd.fcells
              obtain ⟨y0, y1, y2⟩ := HD.out.wd.ffree
              simp only at f0 f1 f2
              go_wp2_with fail
              rw [HBE.out]
              refine (Step_r HP.out _).mono ?_
              rintro e w3 ⟨rfl, hb3⟩
              have HD3 := Lib.hid (HD.out.below hb3)
              clear hb3 r0 r1 r2 r3 f0 f1 f2 y0 y1 y2
              obtain ⟨r0, r1, r2, r3⟩ := HD3.out.wd.rcells
              obtain ⟨f0, f1, f2⟩ := HD3.out.wd.fcells
              obtain ⟨y0, y1, y2⟩ := HD3.out.wd.ffree
              simp only at f0 f1 f2
              have lq := HD3.out.wd.fb.lt
              have lr := HD3.out.wd.rb.lt
              have HD4 := Lib.hid ((HD3.out.setf ⟨2, g1, n1⟩).below (b1 _ (.cells #[.int .i64 2, .int .i64 g1, .int .i64 n1] 30)))
              have hN9 : b9 ≠ w1.heap.size := by omega
              have hb9' : b9 < w3.heap.size := Nat.lt_of_lt_of_le hb9 HD3.out.wd.bel.size
              have d3 : w3.cell? ⟨b9, off9 + rq, none⟩ = _ := (HD3.out.wd.bel.cell (p := ⟨b9, off9 + rq, none⟩) hb9).trans d1
              go_wp2_with fail
              refine (Suc_r _).mono ?_
              rintro e w4 ⟨rfl, hb4⟩
              have HD5 := Lib.hid (HD4.out.below hb4)
              clear hb4 r0 r1 r2 r3 f0 f1 f2 y0 y1 y2
              obtain ⟨r0, r1, r2, r3⟩ := HD5.out.wd.rcells
              obtain ⟨f0, f1, f2⟩ := HD5.out.wd.fcells
              obtain ⟨y0, y1, y2⟩ := HD5.out.wd.ffree
              simp only at f0 f1 f2
              have HD6 := Lib.hid (HD5.out.setf ⟨1, 0, 0⟩)
              go_wp2_with fail
              rw [HB22.out]
              refine (Fits_yes _ _ HF2.out).mono ?_
              rintro e _ ⟨rfl, rfl⟩
              go_wp2_with (at_builtin; refine wpList_append_own _ rfl _ _ 42 rfl (w1.heap.size + 1) 3 i0 (.int .i64 0) 1 8 Try.underlying42 hi0 hz0 hs0 hb0' rfl (by omega) _ _ _ rfl (HD6.out.wd.ow.alloc _) ⟨_, 0, none⟩ 1 1 [.int .i64 bl2] rfl rfl ?c1 ?c2 ?c3 ?c4 ?c5 ?_)
              case c1 => exact new_cell _ _ _ _ (by simp)
              case c2 => intro u hu; simp at hu; subst hu; rfl
              case c3 => unfold maxLen; omega
              case c4 => omega
              case c5 => have hlt := HD6.out.wd.fb.lt; simp at hlt ⊢; omega
              intro v' w9 hown hgrow _
              have HD9 := Lib.hid (HD6.out.app hown hgrow)
              clear hown hgrow r0 r1 r2 r3 f0 f1 f2 y0 y1 y2
              go_wp2_with fail
              go_roundw
              case rel => exact ⟨k + 1, ⟨bl2, ⟨1, 0, 0⟩, rq + 1, out ++ [bl2]⟩, by omega, by go_num, rfl, rfl, HD9, HK2, HB2⟩
              case measure => simp [intOf]; omega
            · have HF2 : Hid (fit (bl1 + cts) = false) := Lib.hid (by rcases ad_miss HFI.out hA2 with h | h; (rw [HCF.out] at h; cases h); exact h.2)
              have HA2 := Lib.hid (ad_none hA2)
              have HH := Lib.hid (HN.out (by rw [← HB.out]; exact loop_none hlen (by rw [HZ.out]; exact step_full HA.out HP.out h0 HQ.out hA2)))
              clear hA2
              go_wp2_with fail
              refine (Fits_yes _ _ HZF.out).mono ?_
              rintro e _ ⟨rfl, rfl⟩
              go_wp2_with fail
              rw [HBE.out]
              refine (Fits_yes _ _ HFI.out).mono ?_
              rintro e _ ⟨rfl, rfl⟩
              obtain ⟨r0, r1, r2, r3⟩ := HD.out.wd.rcells
              obtain ⟨f0, f1, f2⟩ := HD.out.wd.fcells
              obtain ⟨y0, y1, y2⟩ := HD.out.wd.ffree
              simp only at f0 f1 f2
              go_wp2_with fail
              rw [HBE.out]
              refine (Step_r HP.out _).mono ?_
              rintro e w3 ⟨rfl, hb3⟩
              have HD3 := Lib.hid (HD.out.below hb3)
              clear hb3 r0 r1 r2 r3 f0 f1 f2 y0 y1 y2
              obtain ⟨r0, r1, r2, r3⟩ := HD3.out.wd.rcells
              obtain ⟨f0, f1, f2⟩ := HD3.out.wd.fcells
              obtain ⟨y0, y1, y2⟩ := HD3.out.wd.ffree
              simp only at f0 f1 f2
              have lq := HD3.out.wd.fb.lt
              have lr := HD3.out.wd.rb.lt
              have HD4 := Lib.hid ((HD3.out.setf ⟨2, g1, n1⟩).below (b1 _ (.cells #[.int .i64 2, .int .i64 g1, .int .i64 n1] 30)))
              have hN9 : b9 ≠ w1.heap.size := by omega
              have hb9' : b9 < w3.heap.size := Nat.lt_of_lt_of_le hb9 HD3.out.wd.bel.size
              have d3 : w3.cell? ⟨b9, off9 + rq, none⟩ = _ := (HD3.out.wd.bel.cell (p := ⟨b9, off9 + rq, none⟩) hb9).trans d1
              go_wp2_with fail
              refine (Suc_r _).mono ?_
              rintro e w4 ⟨rfl, hb4⟩
              have HD5 := Lib.hid (HD4.out.below hb4)
              clear hb4 r0 r1 r2 r3 f0 f1 f2 y0 y1 y2
              obtain ⟨r0, r1, r2, r3⟩ := HD5.out.wd.rcells
              obtain ⟨f0, f1, f2⟩ := HD5.out.wd.fcells
              obtain ⟨y0, y1, y2⟩ := HD5.out.wd.ffree
              simp only at f0 f1 f2
              have HD6 := Lib.hid (HD5.out.setf ⟨1, 0, 0⟩)
              go_wp2_with fail
              refine (Fits_no _ _ HF2.out).mono ?_
              rintro e _ ⟨rfl, rfl⟩
              obtain ⟨x0, x1, x2⟩ := HD5.out.wd.zcells
              obtain ⟨x3, x4, x5⟩ := HD5.out.wd.zfree
              obtain ⟨v0, v1, v2⟩ := HD5.out.ncells
              have hNz1 : w.heap.size + 1 ≠ w1.heap.size := by omega
              have hNz2 : w.heap.size + 1 + 1 ≠ w1.heap.size := by omega
              go_wp2_with fail
              go_region
              go_wp2_with fail
              exact bodyPost_ret (v := .tuple #[.slice none 0 0, .agg #[.int .i64 0, .int .i64 0, .int .i64 0], .int .i64 13]) (by simp [results, Try.results23, go_sem, x0, x1, x2, x3, x4, x5]) rfl (run_post_nil HH.out (zero_below HD6.out.wd _ _ _).drew)
          · obtain ⟨⟨⟨s2, g3, n2⟩, e2⟩, hfa⟩ : ∃ p, fai ⟨b, c, t, v⟩ ⟨2, g1, n1⟩ k = p := ⟨_, rfl⟩
            have HFA := Lib.hid hfa
            have hg3 : 0 ≤ g3 ∧ g3 ≤ (k : Int) + 1 := by rcases fai_f hfa with e | e <;> simp only at e <;> omega
            have hnq : ¬ (rq < os.length ∧ os.getD rq false = true) := by rw [HM.out]; exact hq
            have HST := Lib.hid (step_lost (st := ⟨bl, ⟨fs, ff, fn⟩, rq, out⟩) HA.out HP.out h0 hnq)
            rw [hfa] at HST
            clear hfa hnq
            by_cases hqm : rq < m
            · have hqf : os.getD rq false = false := by
                cases ho : os.getD rq false
                · rfl
                · exact absurd ⟨hqm, ho⟩ hq
              have hq1 : (rq : Int) < (m : Int) := by omega
              obtain ⟨b9, off9, rfl, hb9, d1⟩ := HO.out.at_ hqm
              rw [hqf] at d1
              clear hqf hq
              have HB2 : Hid (rloop ⟨b, c, t, v⟩ os ⟨bl1, ⟨s2, g3, n2⟩, rq + 1, out ++ [bl1]⟩ (k + 1) (zs.drop (k + 1)) = rloop ⟨b, c, t, v⟩ os ⟨bal, ⟨1, 0, 0⟩, 0, []⟩ 0 zs) := Lib.hid (by rw [← loop_some hlen (st := ⟨bl, ⟨fs, ff, fn⟩, rq, out⟩) (by rw [HZ.out]; exact HST.out), HB.out])
              have HK2 : Hid (ok ⟨bl1, ⟨s2, g3, n2⟩, rq + 1, out ++ [bl1]⟩ (k + 1)) := Lib.hid ⟨HFI.out, hg3.1, hg3.2, by simp; omega, by simp [HOK.out]⟩
              go_wp2_with fail
              refine (Fits_yes _ _ HZF.out).mono ?_
              rintro e _ ⟨rfl, rfl⟩
              go_wp2_with fail
              rw [HBE.out]
              refine (Fits_yes _ _ HFI.out).mono ?_
              rintro e _ ⟨rfl, rfl⟩
              obtain ⟨r0, r1, r2, r3⟩ := HD.out.wd.rcells
              obtain ⟨f0, f1, f2⟩ := HD.out.wd.fcells
              obtain ⟨y0, y1, y2⟩ := HD.out.wd.ffree
              simp only at f0 f1 f2
              go_wp2_with fail
              rw [HBE.out]
              refine (Step_r HP.out _).mono ?_
              rintro e w3 ⟨rfl, hb3⟩
              have HD3 := Lib.hid (HD.out.below hb3)
              clear hb3 r0 r1 r2 r3 f0 f1 f2 y0 y1 y2
              obtain ⟨r0, r1, r2, r3⟩ := HD3.out.wd.rcells
              obtain ⟨f0, f1, f2⟩ := HD3.out.wd.fcells
              obtain ⟨y0, y1, y2⟩ := HD3.out.wd.ffree
              simp only at f0 f1 f2
              have lq := HD3.out.wd.fb.lt
              have lr := HD3.out.wd.rb.lt
              have HD4 := Lib.hid ((HD3.out.setf ⟨2, g1, n1⟩).below (b1 _ (.cells #[.int .i64 2, .int .i64 g1, .int .i64 n1] 30)))
              have hN9 : b9 ≠ w1.heap.size := by omega
              have hb9' : b9 < w3.heap.size := Nat.lt_of_lt_of_le hb9 HD3.out.wd.bel.size
              have d3 : w3.cell? ⟨b9, off9 + rq, none⟩ = _ := (HD3.out.wd.bel.cell (p := ⟨b9, off9 + rq, none⟩) hb9).trans d1
              go_wp2_with fail
              refine (Fai_r HFA.out (by omega) HV.out _).mono ?_
              rintro e w4 ⟨rfl, hb4⟩
              have HD5 := Lib.hid (HD4.out.below hb4)
              clear hb4 r0 r1 r2 r3 f0 f1 f2 y0 y1 y2
              obtain ⟨r0, r1, r2, r3⟩ := HD5.out.wd.rcells
              obtain ⟨f0, f1, f2⟩ := HD5.out.wd.fcells
              obtain ⟨y0, y1, y2⟩ := HD5.out.wd.ffree
              simp only at f0 f1 f2
              have HD6 := Lib.hid (HD5.out.setf ⟨s2, g3, n2⟩)
              go_wp2_with fail
              refine (Fits_yes _ _ HFI.out).mono ?_
              rintro e _ ⟨rfl, rfl⟩
              go_wp2_with (at_builtin; refine wpList_append_own _ rfl _ _ 42 rfl (w1.heap.size + 1) 3 i0 (.int .i64 0) 1 8 Try.underlying42 hi0 hz0 hs0 hb0' rfl (by omega) _ _ _ rfl (HD6.out.wd.ow.alloc _) ⟨_, 0, none⟩ 1 1 [.int .i64 bl1] rfl rfl ?c1 ?c2 ?c3 ?c4 ?c5 ?_)
              case c1 => exact new_cell _ _ _ _ (by simp)
              case c2 => intro u hu; simp at hu; subst hu; rfl
              case c3 => unfold maxLen; omega
              case c4 => omega
              case c5 => have hlt := HD6.out.wd.fb.lt; simp at hlt ⊢; omega
              intro v' w9 hown hgrow _
              have HD9 := Lib.hid (HD6.out.app hown hgrow)
              clear hown hgrow r0 r1 r2 r3 f0 f1 f2 y0 y1 y2
              go_wp2_with fail
              go_roundw
              case rel => exact ⟨k + 1, ⟨bl1, ⟨s2, g3, n2⟩, rq + 1, out ++ [bl1]⟩, by omega, by go_num, rfl, rfl, HD9, HK2, HB2⟩
              case measure => simp [intOf]; omega
            · have hq1 : ¬ (rq : Int) < (m : Int) := by omega
              clear hq
              have HB2 : Hid (rloop ⟨b, c, t, v⟩ os ⟨bl1, ⟨s2, g3, n2⟩, rq + 1, out ++ [bl1]⟩ (k + 1) (zs.drop (k + 1)) = rloop ⟨b, c, t, v⟩ os ⟨bal, ⟨1, 0, 0⟩, 0, []⟩ 0 zs) := Lib.hid (by rw [← loop_some hlen (st := ⟨bl, ⟨fs, ff, fn⟩, rq, out⟩) (by rw [HZ.out]; exact HST.out), HB.out])
              have HK2 : Hid (ok ⟨bl1, ⟨s2, g3, n2⟩, rq + 1, out ++ [bl1]⟩ (k + 1)) := Lib.hid ⟨HFI.out, hg3.1, hg3.2, by simp; omega, by simp [HOK.out]⟩
              go_wp2_with fail
              refine (Fits_yes _ _ HZF.out).mono ?_
              rintro e _ ⟨rfl, rfl⟩
              go_wp2_with fail
              rw [HBE.out]
              refine (Fits_yes _ _ HFI.out).mono ?_
              rintro e _ ⟨rfl, rfl⟩
              obtain ⟨r0, r1, r2, r3⟩ := HD.out.wd.rcells
              obtain ⟨f0, f1, f2⟩ := HD.out.wd.fcells
              obtain ⟨y0, y1, y2⟩ := HD.out.wd.ffree
              simp only at f0 f1 f2
              go_wp2_with fail
              rw [HBE.out]
              refine (Step_r HP.out _).mono ?_
              rintro e w3 ⟨rfl, hb3⟩
              have HD3 := Lib.hid (HD.out.below hb3)
              clear hb3 r0 r1 r2 r3 f0 f1 f2 y0 y1 y2
              obtain ⟨r0, r1, r2, r3⟩ := HD3.out.wd.rcells
              obtain ⟨f0, f1, f2⟩ := HD3.out.wd.fcells
              obtain ⟨y0, y1, y2⟩ := HD3.out.wd.ffree
              simp only at f0 f1 f2
              have lq := HD3.out.wd.fb.lt
              have lr := HD3.out.wd.rb.lt
              have HD4 := Lib.hid ((HD3.out.setf ⟨2, g1, n1⟩).below (b1 _ (.cells #[.int .i64 2, .int .i64 g1, .int .i64 n1] 30)))
              go_wp2_with fail
              refine (Fai_r HFA.out (by omega) HV.out _).mono ?_
              rintro e w4 ⟨rfl, hb4⟩
              have HD5 := Lib.hid (HD4.out.below hb4)
              clear hb4 r0 r1 r2 r3 f0 f1 f2 y0 y1 y2
              obtain ⟨r0, r1, r2, r3⟩ := HD5.out.wd.rcells
              obtain ⟨f0, f1, f2⟩ := HD5.out.wd.fcells
              obtain ⟨y0, y1, y2⟩ := HD5.out.wd.ffree
              simp only at f0 f1 f2
              have HD6 := Lib.hid (HD5.out.setf ⟨s2, g3, n2⟩)
              go_wp2_with fail
              refine (Fits_yes _ _ HFI.out).mono ?_
              rintro e _ ⟨rfl, rfl⟩
              go_wp2_with (at_builtin; refine wpList_append_own _ rfl _ _ 42 rfl (w1.heap.size + 1) 3 i0 (.int .i64 0) 1 8 Try.underlying42 hi0 hz0 hs0 hb0' rfl (by omega) _ _ _ rfl (HD6.out.wd.ow.alloc _) ⟨_, 0, none⟩ 1 1 [.int .i64 bl1] rfl rfl ?c1 ?c2 ?c3 ?c4 ?c5 ?_)
              case c1 => exact new_cell _ _ _ _ (by simp)
              case c2 => intro u hu; simp at hu; subst hu; rfl
              case c3 => unfold maxLen; omega
              case c4 => omega
              case c5 => have hlt := HD6.out.wd.fb.lt; simp at hlt ⊢; omega
              intro v' w9 hown hgrow _
              have HD9 := Lib.hid (HD6.out.app hown hgrow)
              clear hown hgrow r0 r1 r2 r3 f0 f1 f2 y0 y1 y2
              go_wp2_with fail
              go_roundw
              case rel => exact ⟨k + 1, ⟨bl1, ⟨s2, g3, n2⟩, rq + 1, out ++ [bl1]⟩, by omega, by go_num, rfl, rfl, HD9, HK2, HB2⟩
              case measure => simp [intOf]; omega
        · skip
          have HB2 : Hid (rloop ⟨b, c, t, v⟩ os ⟨bl1, ⟨s1, g1, n1⟩, rq, out ++ [bl1]⟩ (k + 1) (zs.drop (k + 1)) = rloop ⟨b, c, t, v⟩ os ⟨bal, ⟨1, 0, 0⟩, 0, []⟩ 0 zs) := Lib.hid (by rw [← loop_some hlen (st := ⟨bl, ⟨fs, ff, fn⟩, rq, out⟩) (by rw [HZ.out]; exact step_rest HA.out HP.out h0), HB.out])
          have HK2 : Hid (ok ⟨bl1, ⟨s1, g1, n1⟩, rq, out ++ [bl1]⟩ (k + 1)) := Lib.hid ⟨HFI.out, hg0, by simp; omega, by simp; omega, by simp [HOK.out]⟩
          go_wp2_with fail
          refine (Fits_yes _ _ HZF.out).mono ?_
          rintro e _ ⟨rfl, rfl⟩
          go_wp2_with fail
          rw [HBE.out]
          refine (Fits_yes _ _ HFI.out).mono ?_
          rintro e _ ⟨rfl, rfl⟩
          obtain ⟨r0, r1, r2, r3⟩ := HD.out.wd.rcells
          obtain ⟨f0, f1, f2⟩ := HD.out.wd.fcells
          obtain ⟨y0, y1, y2⟩ := HD.out.wd.ffree
          simp only at f0 f1 f2
          go_wp2_with fail
          rw [HBE.out]
          refine (Step_r HP.out _).mono ?_
          rintro e w3 ⟨rfl, hb3⟩
          have HD3 := Lib.hid (HD.out.below hb3)
          clear hb3 r0 r1 r2 r3 f0 f1 f2 y0 y1 y2
          obtain ⟨r0, r1, r2, r3⟩ := HD3.out.wd.rcells
          obtain ⟨f0, f1, f2⟩ := HD3.out.wd.fcells
          obtain ⟨y0, y1, y2⟩ := HD3.out.wd.ffree
          simp only at f0 f1 f2
          have lq := HD3.out.wd.fb.lt
          have lr := HD3.out.wd.rb.lt
          have HD4 := Lib.hid ((HD3.out.setf ⟨s1, g1, n1⟩).below (b1 _ (.cells #[.int .i64 s1, .int .i64 g1, .int .i64 n1] 30)))
          go_wp2_with fail
          refine (Fits_yes _ _ HFI.out).mono ?_
          rintro e _ ⟨rfl, rfl⟩
          go_wp2_with (at_builtin; refine wpList_append_own _ rfl _ _ 42 rfl (w1.heap.size + 1) 3 i0 (.int .i64 0) 1 8 Try.underlying42 hi0 hz0 hs0 hb0' rfl (by omega) _ _ _ rfl (HD4.out.wd.ow.alloc _) ⟨_, 0, none⟩ 1 1 [.int .i64 bl1] rfl rfl ?c1 ?c2 ?c3 ?c4 ?c5 ?_)
          case c1 => exact new_cell _ _ _ _ (by simp)
          case c2 => intro u hu; simp at hu; subst hu; rfl
          case c3 => unfold maxLen; omega
          case c4 => omega
          case c5 => have hlt := HD4.out.wd.fb.lt; simp at hlt ⊢; omega
          intro v' w9 hown hgrow _
          have HD9 := Lib.hid (HD4.out.app hown hgrow)
          clear hown hgrow r0 r1 r2 r3 f0 f1 f2 y0 y1 y2
          go_wp2_with fail
          go_roundw
          case rel => exact ⟨k + 1, ⟨bl1, ⟨s1, g1, n1⟩, rq, out ++ [bl1]⟩, by omega, by go_num, rfl, rfl, HD9, HK2, HB2⟩
          case measure => simp [intOf]; omega
      · have HH := Lib.hid (HN.out (by rw [← HB.out]; exact loop_none hlen (by rw [HZ.out]; exact step_fail hA)))
        have hmi := ad_miss hblf hA
        have ⟨hbl0, hbl1⟩ := (fit_iff bl).1 hblf
        clear hA hblf
        rcases hmi with hz | ⟨hz, hz2⟩
        · have HZF := Lib.hid hz
          clear hz
          go_wp2_with fail
          refine (Fits_no _ _ HZF.out).mono ?_
          rintro e _ ⟨rfl, rfl⟩
          obtain ⟨x0, x1, x2⟩ := HD.out.wd.zcells
          obtain ⟨x3, x4, x5⟩ := HD.out.wd.zfree
          obtain ⟨v0, v1, v2⟩ := HD.out.ncells
          go_wp2_with fail
          go_region
          go_wp2_with fail
          exact bodyPost_ret (v := .tuple #[.slice none 0 0, .agg #[.int .i64 0, .int .i64 0, .int .i64 0], .int .i64 13]) (by simp [results, Try.results23, go_sem, x0, x1, x2, x3, x4, x5]) rfl (run_post_nil HH.out (zero_below HD.out.wd _ _ _).drew)
        · have HZF := Lib.hid hz
          have ⟨hzz0, hzz1⟩ := (fit_iff z).1 hz
          have HZ2 := Lib.hid hz2
          clear hz hz2
          go_wp2_with fail
          refine (Fits_yes _ _ HZF.out).mono ?_
          rintro e _ ⟨rfl, rfl⟩
          go_wp2_with fail
          refine (Fits_no _ _ HZ2.out).mono ?_
          rintro e _ ⟨rfl, rfl⟩
          obtain ⟨x0, x1, x2⟩ := HD.out.wd.zcells
          obtain ⟨x3, x4, x5⟩ := HD.out.wd.zfree
          obtain ⟨v0, v1, v2⟩ := HD.out.ncells
          go_wp2_with fail
          go_region
          go_wp2_with fail
          exact bodyPost_ret (v := .tuple #[.slice none 0 0, .agg #[.int .i64 0, .int .i64 0, .int .i64 0], .int .i64 13]) (by simp [results, Try.results23, go_sem, x0, x1, x2, x3, x4, x5]) rfl (run_post_nil HH.out (zero_below HD.out.wd _ _ _).drew)
    · have HH := Lib.hid (HS.out ⟨bl, ⟨fs, ff, fn⟩, rq, out⟩ (by rw [← HB.out]; exact loop_end (by rw [HL.out]; omega)))
      simp only at HH
      have HDo := HD
      obtain ⟨x0, x1, x2⟩ := HD.out.wd.zcells
      obtain ⟨x3, x4, x5⟩ := HD.out.wd.zfree
      obtain ⟨v0, v1, v2⟩ := HD.out.ncells
      obtain ⟨f0, f1, f2⟩ := HD.out.wd.fcells
      simp only at f0 f1 f2
      have hN9 : w1.heap.size ≠ w.heap.size + 1 := by omega
      go_wp2_with fail
      go_region
      go_wp2_with fail
      exact bodyPost_ret (v := .tuple #[_, .agg #[.int .i64 fs, .int .i64 ff, .int .i64 fn], .int .i64 0]) (by simp [results, Try.results23, go_sem, x0, x1, x2, x3, x4, x5]; rfl) rfl ⟨_, by rw [HH.out]; rfl, by rw [HH.out]; exact (own_far (own_far (own_far HDo.out.wd.ow (by omega) _ _) (by omega) _ _) (by omega) _ _).mono (by omega), (zero_below HDo.out.wd _ _ _).drew⟩
end Go.Proofs.Ytodkcnhdiddbkaa.Wk
