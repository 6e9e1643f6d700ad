/- The contract of refill.Run. Conditions: the slices read as lists. -/
import Derived.Test.YtodkcnhdiddbkaaWd
import Derived.Maps.AppendAt
set_option linter.unusedSimpArgs false
set_option linter.unusedVariables false
namespace Go.Proofs.Ytodkcnhdiddbkaa.Wk
open Go.RowKit
open Go.Proofs.Ytodkcnhdiddbkaa.Mt
/-- what a run leaves: the balances in new memory, the state, the error -/
def RunPost (w : World) (R : List Int × Fi × Int) (e : Ending) (w' : World) : Prop :=
  ∃ vs, e = .returned (.tuple #[vs, fiV R.2.1, .int .i64 R.2.2]) ∧ w'.ownsRow w.heap.size 3 1 vs R.1.length (R.1.map (Value.int .i64)) ∧ Below w.heap.size w w'
theorem run_post_nil {w w' : World} {R : List Int × Fi × Int} {x : Int} (h : R = ([], ⟨0, 0, 0⟩, x)) (hb : Below w.heap.size w w') : RunPost w R (.returned (.tuple #[.slice none 0 0, .agg #[.int .i64 0, .int .i64 0, .int .i64 0], .int .i64 x])) w' :=
  ⟨_, by rw [h]; rfl, by rw [h]; exact World.ownsRow_nil _ _ _ _, hb⟩

theorem keep_block {B g : Nat} {w w' : World} {o : Obj} (h : w.heap[g]? = some o) (hb : Below B w w') (hg : g < B) : w'.heap[g]? = some o := (hb.block g hg).trans h
theorem heap_alloc_at (w : World) (o o2 : Obj) : ((w.alloc o).alloc o2).heap[w.heap.size]? = some o := (Below.heap_alloc (w.alloc o) o2 _ (by simp)).trans (heap_alloc_new w o)

theorem int_info : (Try.prog.info? 3).map (fun i => (i.zero, i.size, i.bytes)) = some (some (.int .i64 0), 1, 8) := by kernel_rfl

theorem below_set3 {B g : Nat} {w0 w : World} (h : Below B w0 w) (hg : B ≤ g) (x y z : Value) : Below B w0 (((w.setCell ⟨g, 0, none⟩ x).setCell ⟨g, 1, none⟩ y).setCell ⟨g, 2, none⟩ z) :=
  ((h.setCell (p := ⟨g, 0, none⟩) hg _).setCell (p := ⟨g, 1, none⟩) hg _).setCell (p := ⟨g, 2, none⟩) hg _
theorem step_r {b c t v bal x : Int} {f f' : Fi} {y : Int} (h : stp ⟨b, c, t, v⟩ f bal x = (f', y)) (w : World) :
    Calls Try.prog 14 #[.agg #[.int .i64 b, .int .i64 c, .int .i64 t, .int .i64 v], .agg #[.int .i64 f.s, .int .i64 f.f, .int .i64 f.n], .int .i64 bal, .int .i64 x] w
      fun e w' => e = .returned (.tuple #[.agg #[.int .i64 f'.s, .int .i64 f'.f, .int .i64 f'.n], .int .i64 y]) ∧ Below w.heap.size w w' :=
  (step_any b c t v f.s f.f f.n bal x w).mono fun e w' ⟨he, hb⟩ => ⟨by rw [he, h]; rfl, hb⟩
theorem add_r {a b x y : Int} (h : adS a b = (x, y)) (w : World) : Calls Try.prog 29 #[.int .i64 a, .int .i64 b] w fun e w' => e = .returned (.tuple #[.int .i64 x, .int .i64 y]) ∧ Below w.heap.size w w' :=
  (add_bel a b w).mono fun e w' ⟨he, hb⟩ => ⟨by rw [he, h], hb⟩

theorem new_cell (W : World) (x : Value) (t : TypeId) (n : Nat) (h : n = W.heap.size) : ∀ j u, [x][j]? = some u → (W.alloc (.cells #[x] t)).cell? ((⟨n, 0, none⟩ : Addr).add j) = some u := by
  subst h; exact cell_one_new _ _ _
theorem suc_r {b c t v g n : Int} (w : World) :
    Calls Try.prog 16 #[.agg #[.int .i64 b, .int .i64 c, .int .i64 t, .int .i64 v], .agg #[.int .i64 2, .int .i64 g, .int .i64 n]] w
      fun e w' => e = .returned (.tuple #[.agg #[.int .i64 1, .int .i64 0, .int .i64 0], .int .i64 0]) ∧ Below w.heap.size w w' :=
  (suc_any b c t v 2 g n w).mono fun e w' ⟨he, hb⟩ => ⟨by rw [he, suc_yes]; rfl, hb⟩
theorem fai_r {b c t v s g n x y : Int} {f' : Fi} (h : fai ⟨b, c, t, v⟩ ⟨s, g, n⟩ x = (f', y)) (hg : 0 ≤ g ∧ g ≤ 2147483648) (hv : 0 ≤ v ∧ v ≤ 68719476736) (w : World) :
    Calls Try.prog 20 #[.agg #[.int .i64 b, .int .i64 c, .int .i64 t, .int .i64 v], .agg #[.int .i64 s, .int .i64 g, .int .i64 n], .int .i64 x] w
      fun e w' => e = .returned (.tuple #[.agg #[.int .i64 f'.s, .int .i64 f'.f, .int .i64 f'.n], .int .i64 y]) ∧ Below w.heap.size w w' :=
  (fai_any b c t v s g n x w hg hv).mono fun e w' ⟨he, hb⟩ => ⟨by rw [he, h]; rfl, hb⟩
/-- the result's cell is laid zero once more -/
theorem zero_below {w0 wr : World} {q : Nat} {b c t v : Int} {f : Fi} {vs : Value} {out : List Int} (h : Wd w0 wr q b c t v f vs out) (x y z : Value) :
    Below w0.heap.size w0 (((wr.setCell ⟨w0.heap.size + 1, 0, none⟩ x).setCell ⟨w0.heap.size + 1, 1, none⟩ y).setCell ⟨w0.heap.size + 1, 2, none⟩ z) := below_set3 h.bel (by omega) _ _ _

set_option maxHeartbeats 4000000 in
set_option maxRecDepth 100000 in
theorem run_loop (b c t v bal : Int) (A : Option Addr) (n k0 : Nat) (zs : List Int) (A2 : Option Addr) (m k2 : Nat) (os : List Bool) (w : World) (h1 : Ri w w.heap.size A n zs) (h2 : Rb w w.heap.size A2 m os)
    (hc0 : chk ⟨b, c, t, v⟩ = 0) (h9 : ¬ 1024 < n) (hf : fit bal = true) :
    Calls Try.prog 22 #[.agg #[.int .i64 b, .int .i64 c, .int .i64 t, .int .i64 v], .int .i64 bal, .slice A n k0, .slice A2 m k2] w (RunPost w (runS ⟨b, c, t, v⟩ bal zs os)) := by
  have hn := h1.2.1
  have hm := h2.2.1
  have HL := Lib.hid h1.1
  have HM := Lib.hid h2.1
  have HR := Lib.hid h1
  have HO := Lib.hid h2
  have hv := chk_wait hc0
  simp only at hv
  have HV := Lib.hid hv
  have HC := Lib.hid hc0
  have HF := Lib.hid hf
  have HN : Hid (rloop ⟨b, c, t, v⟩ os ⟨bal, ⟨1, 0, 0⟩, 0, []⟩ 0 zs = none → runS ⟨b, c, t, v⟩ bal zs os = ([], ⟨0, 0, 0⟩, 13)) := Lib.hid (fun h => run_none hc0 (by rw [h1.1]; exact h9) hf h)
  have HS : Hid (∀ st, rloop ⟨b, c, t, v⟩ os ⟨bal, ⟨1, 0, 0⟩, 0, []⟩ 0 zs = some st → runS ⟨b, c, t, v⟩ bal zs os = (st.out, st.f, 0)) := Lib.hid (fun st h => run_some hc0 (by rw [h1.1]; exact h9) hf h)
  clear h1 h2 hv hc0 hf
  obtain ⟨i0, hi0, hz0, hs0, hb0'⟩ := info_parts int_info
  go_enter Try.func22, Try.ntmps22
  go_wp2_with fail
  refine (check_any b c t v _).mono ?_
  rintro e w1 ⟨he, hb1⟩
  rw [HC.out] at he
  subst he
  have hz1 : w.heap.size + 2 ≤ w1.heap.size := by have := hb1.size; simpa using this
  have HW1 : Hid (Bx w1 w.heap.size 23 #[.int .i64 b, .int .i64 c, .int .i64 t, .int .i64 v] ∧ Bx w1 (w.heap.size + 1) 30 #[.int .i64 0, .int .i64 0, .int .i64 0] ∧ Below w.heap.size w w1) := Lib.hid
    ⟨(keep_block (heap_alloc_at w _ _) hb1 (by simp; omega)), (keep_block (by have := heap_alloc_new (w.alloc (.cells #[Value.int .i64 b, .int .i64 c, .int .i64 t, .int .i64 v] 23)) (.cells #[Value.int .i64 0, .int .i64 0, .int .i64 0] 30); simpa using this) hb1 (by simp)), (b2 _ _ _).trans (hb1.mono (by simp; omega))⟩
  clear hb1
  go_wp2_with fail
  refine (fits_yes _ _ HF.out).mono ?_
  rintro e _ ⟨rfl, rfl⟩
  go_wp2_with fail
  go_loopw [1, 13, 14, 36] (fun bl vs rq i wr => ∃ (k : Nat) (st : St), k ≤ n ∧ i = .int .i64 k ∧ bl = .int .i64 st.bal ∧ rq = .int .i64 st.req ∧ Hid (Wd w wr w1.heap.size b c t v st.f vs st.out) ∧ Hid (ok st k) ∧ Hid (rloop ⟨b, c, t, v⟩ os st k (zs.drop k) = rloop ⟨b, c, t, v⟩ os ⟨bal, ⟨1, 0, 0⟩, 0, []⟩ 0 zs)) (fun _ _ _ i _ => n - (intOf i).toNat)
  case atStart => exact ⟨0, ⟨bal, ⟨1, 0, 0⟩, 0, []⟩, Nat.zero_le _, rfl, rfl, rfl, Lib.hid ⟨HW1.out.2.2.alloc (by omega) _, by omega, HW1.out.1.below (b1 _ _) (by omega), HW1.out.2.1.below (b1 _ _) (by omega), heap_alloc_new _ _, World.ownsRow_nil _ _ _ _⟩, Lib.hid ⟨HF.out, by simp, by simp, by simp, rfl⟩, Lib.hid rfl⟩
  case round =>
    obtain ⟨k, ⟨bl, ⟨fs, ff, fn⟩, rq, out⟩, hk, rfl, rfl, rfl, HD, HK, HB⟩ := hrel
    clear HW1
    by_cases hlt : k < n
    · obtain ⟨b0, off, rfl, hbB, c1⟩ := (HR.out.below HD.out.bel (Nat.le_refl _)).at_ hlt
      obtain ⟨z, hz⟩ : ∃ z, zs.getD k 0 = z := ⟨_, rfl⟩
      rw [hz] at c1
      have HZ := Lib.hid hz
      have hlen : k < zs.length := by rw [HL.out]; omega
      clear hz
      by_cases hA : (adS bl z).2 = 0
      · obtain ⟨⟨bl1, e1⟩, ha⟩ : ∃ p, adS bl z = p := ⟨_, rfl⟩
        rw [ha] at hA
        simp only at hA
        subst hA
        have HA := Lib.hid ha
        obtain ⟨⟨⟨s1, g1, n1⟩, cts⟩, hs⟩ : ∃ p, stp ⟨b, c, t, v⟩ ⟨fs, ff, fn⟩ bl1 k = p := ⟨_, rfl⟩
        have HP := Lib.hid hs
        clear ha hs
        have hout : out.length ≤ 1024 := by have := HK.out.2.2.2.2; simp only at this; omega
        have hrq : rq ≤ 1024 := by have := HK.out.2.2.2.1; simp only at this; omega
        have hff0 : 0 ≤ ff := HK.out.2.1
        have hff1 : ff ≤ 1024 := by have := HK.out.2.2.1; simp only at this; omega
        have hffk : ff ≤ (k : Int) := HK.out.2.2.1
        have hrqk : rq ≤ k := HK.out.2.2.2.1
        have hok : out.length = k := HK.out.2.2.2.2
        have hfit : fit bl1 = true := (ad_fit HA.out).1
        have hg1 : g1 = ff := (stp_f HP.out).1
        have HOK := Lib.hid hok
        have HG := Lib.hid hg1
        have HFI := Lib.hid hfit
        have hg0 : 0 ≤ g1 := by omega
        have hg2 : g1 ≤ 1024 := by omega
        have hgk : g1 ≤ (k : Int) := by omega
        clear hok hg1 hfit
        by_cases h0 : 0 < cts
        · have hs2 : s1 = 2 := ((stp_f HP.out).2 h0).1
          subst hs2
          by_cases hq : rq < m ∧ os.getD rq false = true
          · have hq1 : (rq : Int) < (m : Int) := by omega
            have hq2 : rq < os.length ∧ os.getD rq false = true := by rw [HM.out]; exact hq
            have HQ := Lib.hid hq2
            obtain ⟨b9, off9, rfl, hb9, d1⟩ := HO.out.at_ hq.1
            rw [hq.2] at d1
            clear hq2
            by_cases hA2 : (adS bl1 cts).2 = 0
            · obtain ⟨⟨bl2, e2⟩, ha2⟩ : ∃ p, adS bl1 cts = p := ⟨_, rfl⟩
              rw [ha2] at hA2
              simp only at hA2
              subst hA2
              have HA2 := Lib.hid ha2
              clear ha2
              have HB2 : Hid (rloop ⟨b, c, t, v⟩ os ⟨bl2, ⟨1, 0, 0⟩, rq + 1, out ++ [bl2]⟩ (k + 1) (zs.drop (k + 1)) = rloop ⟨b, c, t, v⟩ os ⟨bal, ⟨1, 0, 0⟩, 0, []⟩ 0 zs) := Lib.hid (by rw [← loop_some hlen (st := ⟨bl, ⟨fs, ff, fn⟩, rq, out⟩) (by rw [HZ.out]; exact (by have h7 := step_won (st := ⟨bl, ⟨fs, ff, fn⟩, rq, out⟩) HA.out HP.out h0 HQ.out HA2.out; rwa [suc_two rfl] at h7)), HB.out])
              have HK2 : Hid (ok ⟨bl2, ⟨1, 0, 0⟩, rq + 1, out ++ [bl2]⟩ (k + 1)) := Lib.hid ⟨(ad_fit HA2.out).1, by simp, by simp; omega, by simp; omega, by simp [HOK.out]⟩
              go_wp2_with fail
              refine (add_r HA.out _).mono ?_
              rintro e w2 ⟨rfl, hb2⟩
              have HD2 := Lib.hid (HD.out.below hb2)
              clear hb2
              obtain ⟨r0, r1, r2, r3⟩ := HD2.out.rcells
              obtain ⟨f0, f1, f2⟩ := HD2.out.fcells
              obtain ⟨y0, y1, y2⟩ := HD2.out.ffree
              simp only at f0 f1 f2
              go_wp2_with fail
              refine (step_r HP.out _).mono ?_
              rintro e w3 ⟨rfl, hb3⟩
              have HD3 := Lib.hid (HD2.out.below hb3)
              clear hb3 r0 r1 r2 r3 f0 f1 f2 y0 y1 y2
              obtain ⟨r0, r1, r2, r3⟩ := HD3.out.rcells
              obtain ⟨f0, f1, f2⟩ := HD3.out.fcells
              obtain ⟨y0, y1, y2⟩ := HD3.out.ffree
              simp only at f0 f1 f2
              have HD4 := Lib.hid (HD3.out.setf ⟨2, g1, n1⟩)
              have hN9 : b9 ≠ w1.heap.size := by omega
              have d3 : w3.cell? ⟨b9, off9 + rq, none⟩ = _ := (HD3.out.bel.cell (p := ⟨b9, off9 + rq, none⟩) hb9).trans d1
              go_wp2_with fail
              refine (suc_r _).mono ?_
              rintro e w4 ⟨rfl, hb4⟩
              have HD5 := Lib.hid (HD4.out.below hb4)
              clear hb4 r0 r1 r2 r3 f0 f1 f2 y0 y1 y2
              obtain ⟨r0, r1, r2, r3⟩ := HD5.out.rcells
              obtain ⟨f0, f1, f2⟩ := HD5.out.fcells
              obtain ⟨y0, y1, y2⟩ := HD5.out.ffree
              simp only at f0 f1 f2
              have HD6 := Lib.hid (HD5.out.setf ⟨1, 0, 0⟩)
              go_wp2_with fail
              refine (add_r HA2.out _).mono ?_
              rintro e w5 ⟨rfl, hb5⟩
              have HD7 := Lib.hid (HD6.out.below hb5)
              clear hb5 r0 r1 r2 r3 f0 f1 f2 y0 y1 y2
              obtain ⟨r0, r1, r2, r3⟩ := HD7.out.rcells
              obtain ⟨f0, f1, f2⟩ := HD7.out.fcells
              obtain ⟨y0, y1, y2⟩ := HD7.out.ffree
              simp only at f0 f1 f2
              go_wp2_with (at_builtin; refine wpList_append_own _ rfl _ _ 42 rfl (w1.heap.size + 1) 3 i0 (.int .i64 0) 1 8 Try.underlying42 hi0 hz0 hs0 hb0' rfl (by omega) _ _ _ rfl (HD7.out.ow.alloc _) ⟨_, 0, none⟩ 1 1 [.int .i64 bl2] rfl rfl ?c1 ?c2 ?c3 ?c4 ?c5 ?_)
              case c1 => exact new_cell _ _ _ _ (by simp)
              case c2 => intro u hu; simp at hu; subst hu; rfl
              case c3 => unfold maxLen; omega
              case c4 => omega
              case c5 => have hlt := HD7.out.fb.lt; simp at hlt ⊢; omega
              intro v' w9 hown hgrow _
              have HD9 := Lib.hid (HD7.out.app hown hgrow)
              clear hown hgrow r0 r1 r2 r3 f0 f1 f2 y0 y1 y2
              go_wp2_with fail
              go_roundw
              case rel => exact ⟨k + 1, ⟨bl2, ⟨1, 0, 0⟩, rq + 1, out ++ [bl2]⟩, by omega, by go_num, rfl, rfl, HD9, HK2, HB2⟩
              case measure => simp [intOf]; omega
            · have HA2 := Lib.hid (ad_none hA2)
              have HH := Lib.hid (HN.out (by rw [← HB.out]; exact loop_none hlen (by rw [HZ.out]; exact step_full HA.out HP.out h0 HQ.out hA2)))
              clear hA2
              go_wp2_with fail
              refine (add_r HA.out _).mono ?_
              rintro e w2 ⟨rfl, hb2⟩
              have HD2 := Lib.hid (HD.out.below hb2)
              clear hb2
              obtain ⟨r0, r1, r2, r3⟩ := HD2.out.rcells
              obtain ⟨f0, f1, f2⟩ := HD2.out.fcells
              obtain ⟨y0, y1, y2⟩ := HD2.out.ffree
              simp only at f0 f1 f2
              go_wp2_with fail
              refine (step_r HP.out _).mono ?_
              rintro e w3 ⟨rfl, hb3⟩
              have HD3 := Lib.hid (HD2.out.below hb3)
              clear hb3 r0 r1 r2 r3 f0 f1 f2 y0 y1 y2
              obtain ⟨r0, r1, r2, r3⟩ := HD3.out.rcells
              obtain ⟨f0, f1, f2⟩ := HD3.out.fcells
              obtain ⟨y0, y1, y2⟩ := HD3.out.ffree
              simp only at f0 f1 f2
              have HD4 := Lib.hid (HD3.out.setf ⟨2, g1, n1⟩)
              have hN9 : b9 ≠ w1.heap.size := by omega
              have d3 : w3.cell? ⟨b9, off9 + rq, none⟩ = _ := (HD3.out.bel.cell (p := ⟨b9, off9 + rq, none⟩) hb9).trans d1
              go_wp2_with fail
              refine (suc_r _).mono ?_
              rintro e w4 ⟨rfl, hb4⟩
              have HD5 := Lib.hid (HD4.out.below hb4)
              clear hb4 r0 r1 r2 r3 f0 f1 f2 y0 y1 y2
              obtain ⟨r0, r1, r2, r3⟩ := HD5.out.rcells
              obtain ⟨f0, f1, f2⟩ := HD5.out.fcells
              obtain ⟨y0, y1, y2⟩ := HD5.out.ffree
              simp only at f0 f1 f2
              have HD6 := Lib.hid (HD5.out.setf ⟨1, 0, 0⟩)
              go_wp2_with fail
              refine (add_r HA2.out _).mono ?_
              rintro e w5 ⟨rfl, hb5⟩
              have HD7 := Lib.hid (HD6.out.below hb5)
              clear hb5 r0 r1 r2 r3 f0 f1 f2 y0 y1 y2
              obtain ⟨x0, x1, x2⟩ := HD7.out.zcells
              obtain ⟨x3, x4, x5⟩ := HD7.out.zfree
              go_wp2_with fail
              exact bodyPost_ret (v := .tuple #[.slice none 0 0, .agg #[.int .i64 0, .int .i64 0, .int .i64 0], .int .i64 13]) (by simp [results, Try.results22, go_sem, x0, x1, x2, x3, x4, x5]) rfl (run_post_nil HH.out (zero_below HD7.out _ _ _))
          · obtain ⟨⟨⟨s2, g3, n2⟩, e2⟩, hfa⟩ : ∃ p, fai ⟨b, c, t, v⟩ ⟨2, g1, n1⟩ k = p := ⟨_, rfl⟩
            have HFA := Lib.hid hfa
            have hg3 : 0 ≤ g3 ∧ g3 ≤ (k : Int) + 1 := by rcases fai_f hfa with e | e <;> simp only at e <;> omega
            have hnq : ¬ (rq < os.length ∧ os.getD rq false = true) := by rw [HM.out]; exact hq
            have HST := Lib.hid (step_lost (st := ⟨bl, ⟨fs, ff, fn⟩, rq, out⟩) HA.out HP.out h0 hnq)
            rw [hfa] at HST
            clear hfa hnq
            by_cases hqm : rq < m
            · have hqf : os.getD rq false = false := by
                cases ho : os.getD rq false
                · rfl
                · exact absurd ⟨hqm, ho⟩ hq
              have hq1 : (rq : Int) < (m : Int) := by omega
              obtain ⟨b9, off9, rfl, hb9, d1⟩ := HO.out.at_ hqm
              rw [hqf] at d1
              clear hqf hq
              have HB2 : Hid (rloop ⟨b, c, t, v⟩ os ⟨bl1, ⟨s2, g3, n2⟩, rq + 1, out ++ [bl1]⟩ (k + 1) (zs.drop (k + 1)) = rloop ⟨b, c, t, v⟩ os ⟨bal, ⟨1, 0, 0⟩, 0, []⟩ 0 zs) := Lib.hid (by rw [← loop_some hlen (st := ⟨bl, ⟨fs, ff, fn⟩, rq, out⟩) (by rw [HZ.out]; exact HST.out), HB.out])
              have HK2 : Hid (ok ⟨bl1, ⟨s2, g3, n2⟩, rq + 1, out ++ [bl1]⟩ (k + 1)) := Lib.hid ⟨HFI.out, hg3.1, hg3.2, by simp; omega, by simp [HOK.out]⟩
              go_wp2_with fail
              refine (add_r HA.out _).mono ?_
              rintro e w2 ⟨rfl, hb2⟩
              have HD2 := Lib.hid (HD.out.below hb2)
              clear hb2
              obtain ⟨r0, r1, r2, r3⟩ := HD2.out.rcells
              obtain ⟨f0, f1, f2⟩ := HD2.out.fcells
              obtain ⟨y0, y1, y2⟩ := HD2.out.ffree
              simp only at f0 f1 f2
              go_wp2_with fail
              refine (step_r HP.out _).mono ?_
              rintro e w3 ⟨rfl, hb3⟩
              have HD3 := Lib.hid (HD2.out.below hb3)
              clear hb3 r0 r1 r2 r3 f0 f1 f2 y0 y1 y2
              obtain ⟨r0, r1, r2, r3⟩ := HD3.out.rcells
              obtain ⟨f0, f1, f2⟩ := HD3.out.fcells
              obtain ⟨y0, y1, y2⟩ := HD3.out.ffree
              simp only at f0 f1 f2
              have HD4 := Lib.hid (HD3.out.setf ⟨2, g1, n1⟩)
              have hN9 : b9 ≠ w1.heap.size := by omega
              have d3 : w3.cell? ⟨b9, off9 + rq, none⟩ = _ := (HD3.out.bel.cell (p := ⟨b9, off9 + rq, none⟩) hb9).trans d1
              go_wp2_with fail
              refine (fai_r HFA.out (by omega) HV.out _).mono ?_
              rintro e w4 ⟨rfl, hb4⟩
              have HD5 := Lib.hid (HD4.out.below hb4)
              clear hb4 r0 r1 r2 r3 f0 f1 f2 y0 y1 y2
              obtain ⟨r0, r1, r2, r3⟩ := HD5.out.rcells
              obtain ⟨f0, f1, f2⟩ := HD5.out.fcells
              obtain ⟨y0, y1, y2⟩ := HD5.out.ffree
              simp only at f0 f1 f2
              have HD6 := Lib.hid (HD5.out.setf ⟨s2, g3, n2⟩)
              go_wp2_with (at_builtin; refine wpList_append_own _ rfl _ _ 42 rfl (w1.heap.size + 1) 3 i0 (.int .i64 0) 1 8 Try.underlying42 hi0 hz0 hs0 hb0' rfl (by omega) _ _ _ rfl (HD6.out.ow.alloc _) ⟨_, 0, none⟩ 1 1 [.int .i64 bl1] rfl rfl ?c1 ?c2 ?c3 ?c4 ?c5 ?_)
              case c1 => exact new_cell _ _ _ _ (by simp)
              case c2 => intro u hu; simp at hu; subst hu; rfl
              case c3 => unfold maxLen; omega
              case c4 => omega
              case c5 => have hlt := HD6.out.fb.lt; simp at hlt ⊢; omega
              intro v' w9 hown hgrow _
              have HD9 := Lib.hid (HD6.out.app hown hgrow)
              clear hown hgrow r0 r1 r2 r3 f0 f1 f2 y0 y1 y2
              go_wp2_with fail
              go_roundw
              case rel => exact ⟨k + 1, ⟨bl1, ⟨s2, g3, n2⟩, rq + 1, out ++ [bl1]⟩, by omega, by go_num, rfl, rfl, HD9, HK2, HB2⟩
              case measure => simp [intOf]; omega
            · have hq1 : ¬ (rq : Int) < (m : Int) := by omega
              clear hq
              have HB2 : Hid (rloop ⟨b, c, t, v⟩ os ⟨bl1, ⟨s2, g3, n2⟩, rq + 1, out ++ [bl1]⟩ (k + 1) (zs.drop (k + 1)) = rloop ⟨b, c, t, v⟩ os ⟨bal, ⟨1, 0, 0⟩, 0, []⟩ 0 zs) := Lib.hid (by rw [← loop_some hlen (st := ⟨bl, ⟨fs, ff, fn⟩, rq, out⟩) (by rw [HZ.out]; exact HST.out), HB.out])
              have HK2 : Hid (ok ⟨bl1, ⟨s2, g3, n2⟩, rq + 1, out ++ [bl1]⟩ (k + 1)) := Lib.hid ⟨HFI.out, hg3.1, hg3.2, by simp; omega, by simp [HOK.out]⟩
              go_wp2_with fail
              refine (add_r HA.out _).mono ?_
              rintro e w2 ⟨rfl, hb2⟩
              have HD2 := Lib.hid (HD.out.below hb2)
              clear hb2
              obtain ⟨r0, r1, r2, r3⟩ := HD2.out.rcells
              obtain ⟨f0, f1, f2⟩ := HD2.out.fcells
              obtain ⟨y0, y1, y2⟩ := HD2.out.ffree
              simp only at f0 f1 f2
              go_wp2_with fail
              refine (step_r HP.out _).mono ?_
              rintro e w3 ⟨rfl, hb3⟩
              have HD3 := Lib.hid (HD2.out.below hb3)
              clear hb3 r0 r1 r2 r3 f0 f1 f2 y0 y1 y2
              obtain ⟨r0, r1, r2, r3⟩ := HD3.out.rcells
              obtain ⟨f0, f1, f2⟩ := HD3.out.fcells
              obtain ⟨y0, y1, y2⟩ := HD3.out.ffree
              simp only at f0 f1 f2
              have HD4 := Lib.hid (HD3.out.setf ⟨2, g1, n1⟩)
              go_wp2_with fail
              refine (fai_r HFA.out (by omega) HV.out _).mono ?_
              rintro e w4 ⟨rfl, hb4⟩
              have HD5 := Lib.hid (HD4.out.below hb4)
              clear hb4 r0 r1 r2 r3 f0 f1 f2 y0 y1 y2
              obtain ⟨r0, r1, r2, r3⟩ := HD5.out.rcells
              obtain ⟨f0, f1, f2⟩ := HD5.out.fcells
              obtain ⟨y0, y1, y2⟩ := HD5.out.ffree
              simp only at f0 f1 f2
              have HD6 := Lib.hid (HD5.out.setf ⟨s2, g3, n2⟩)
              go_wp2_with (at_builtin; refine wpList_append_own _ rfl _ _ 42 rfl (w1.heap.size + 1) 3 i0 (.int .i64 0) 1 8 Try.underlying42 hi0 hz0 hs0 hb0' rfl (by omega) _ _ _ rfl (HD6.out.ow.alloc _) ⟨_, 0, none⟩ 1 1 [.int .i64 bl1] rfl rfl ?c1 ?c2 ?c3 ?c4 ?c5 ?_)
              case c1 => exact new_cell _ _ _ _ (by simp)
              case c2 => intro u hu; simp at hu; subst hu; rfl
              case c3 => unfold maxLen; omega
              case c4 => omega
              case c5 => have hlt := HD6.out.fb.lt; simp at hlt ⊢; omega
              intro v' w9 hown hgrow _
              have HD9 := Lib.hid (HD6.out.app hown hgrow)
              clear hown hgrow r0 r1 r2 r3 f0 f1 f2 y0 y1 y2
              go_wp2_with fail
              go_roundw
              case rel => exact ⟨k + 1, ⟨bl1, ⟨s2, g3, n2⟩, rq + 1, out ++ [bl1]⟩, by omega, by go_num, rfl, rfl, HD9, HK2, HB2⟩
              case measure => simp [intOf]; omega
        · skip
          have HB2 : Hid (rloop ⟨b, c, t, v⟩ os ⟨bl1, ⟨s1, g1, n1⟩, rq, out ++ [bl1]⟩ (k + 1) (zs.drop (k + 1)) = rloop ⟨b, c, t, v⟩ os ⟨bal, ⟨1, 0, 0⟩, 0, []⟩ 0 zs) := Lib.hid (by rw [← loop_some hlen (st := ⟨bl, ⟨fs, ff, fn⟩, rq, out⟩) (by rw [HZ.out]; exact step_rest HA.out HP.out h0), HB.out])
          have HK2 : Hid (ok ⟨bl1, ⟨s1, g1, n1⟩, rq, out ++ [bl1]⟩ (k + 1)) := Lib.hid ⟨HFI.out, hg0, by simp; omega, by simp; omega, by simp [HOK.out]⟩
          go_wp2_with fail
          refine (add_r HA.out _).mono ?_
          rintro e w2 ⟨rfl, hb2⟩
          have HD2 := Lib.hid (HD.out.below hb2)
          clear hb2
          obtain ⟨r0, r1, r2, r3⟩ := HD2.out.rcells
          obtain ⟨f0, f1, f2⟩ := HD2.out.fcells
          obtain ⟨y0, y1, y2⟩ := HD2.out.ffree
          simp only at f0 f1 f2
          go_wp2_with fail
          refine (step_r HP.out _).mono ?_
          rintro e w3 ⟨rfl, hb3⟩
          have HD3 := Lib.hid (HD2.out.below hb3)
          clear hb3 r0 r1 r2 r3 f0 f1 f2 y0 y1 y2
          obtain ⟨r0, r1, r2, r3⟩ := HD3.out.rcells
          obtain ⟨f0, f1, f2⟩ := HD3.out.fcells
          obtain ⟨y0, y1, y2⟩ := HD3.out.ffree
          simp only at f0 f1 f2
          have HD4 := Lib.hid (HD3.out.setf ⟨s1, g1, n1⟩)
          go_wp2_with (at_builtin; refine wpList_append_own _ rfl _ _ 42 rfl (w1.heap.size + 1) 3 i0 (.int .i64 0) 1 8 Try.underlying42 hi0 hz0 hs0 hb0' rfl (by omega) _ _ _ rfl (HD4.out.ow.alloc _) ⟨_, 0, none⟩ 1 1 [.int .i64 bl1] rfl rfl ?c1 ?c2 ?c3 ?c4 ?c5 ?_)
          case c1 => exact new_cell _ _ _ _ (by simp)
          case c2 => intro u hu; simp at hu; subst hu; rfl
          case c3 => unfold maxLen; omega
          case c4 => omega
          case c5 => have hlt := HD4.out.fb.lt; simp at hlt ⊢; omega
          intro v' w9 hown hgrow _
          have HD9 := Lib.hid (HD4.out.app hown hgrow)
          clear hown hgrow r0 r1 r2 r3 f0 f1 f2 y0 y1 y2
          go_wp2_with fail
          go_roundw
          case rel => exact ⟨k + 1, ⟨bl1, ⟨s1, g1, n1⟩, rq, out ++ [bl1]⟩, by omega, by go_num, rfl, rfl, HD9, HK2, HB2⟩
          case measure => simp [intOf]; omega
      · have HA := Lib.hid (ad_none hA)
        have HH := Lib.hid (HN.out (by rw [← HB.out]; exact loop_none hlen (by rw [HZ.out]; exact step_fail hA)))
        clear hA
        go_wp2_with fail
        refine (add_r HA.out _).mono ?_
        rintro e w2 ⟨rfl, hb2⟩
        have HD2 := Lib.hid (HD.out.below hb2)
        clear hb2
        obtain ⟨x0, x1, x2⟩ := HD2.out.zcells
        obtain ⟨x3, x4, x5⟩ := HD2.out.zfree
        go_wp2_with fail
        exact bodyPost_ret (v := .tuple #[.slice none 0 0, .agg #[.int .i64 0, .int .i64 0, .int .i64 0], .int .i64 13]) (by simp [results, Try.results22, go_sem, x0, x1, x2, x3, x4, x5]) rfl (run_post_nil HH.out (zero_below HD2.out _ _ _))
    · have HH := Lib.hid (HS.out ⟨bl, ⟨fs, ff, fn⟩, rq, out⟩ (by rw [← HB.out]; exact loop_end (by rw [HL.out]; omega)))
      simp only at HH
      have HDo := HD
      obtain ⟨x0, x1, x2⟩ := HD.out.zcells
      obtain ⟨x3, x4, x5⟩ := HD.out.zfree
      obtain ⟨f0, f1, f2⟩ := HD.out.fcells
      simp only at f0 f1 f2
      have hN9 : w1.heap.size ≠ w.heap.size + 1 := by omega
      go_wp2_with fail
      go_region
      go_wp2_with fail
      exact bodyPost_ret (v := .tuple #[_, .agg #[.int .i64 fs, .int .i64 ff, .int .i64 fn], .int .i64 0]) (by simp [results, Try.results22, go_sem, x0, x1, x2, x3, x4, x5]; rfl) rfl ⟨_, by rw [HH.out]; rfl, by rw [HH.out]; exact (own_far (own_far (own_far HDo.out.ow (by omega) _ _) (by omega) _ _) (by omega) _ _).mono (by omega), (zero_below HDo.out _ _ _).drew⟩
end Go.Proofs.Ytodkcnhdiddbkaa.Wk
