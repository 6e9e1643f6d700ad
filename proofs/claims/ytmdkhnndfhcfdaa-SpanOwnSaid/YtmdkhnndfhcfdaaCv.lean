/- Whether an interval is covered, in both; the length as a number; lists of one interval and of two. Conditions: the slices read as intervals; at most 400 each. -/
import Derived.Test.YtmdkhnndfhcfdaaWr
set_option linter.unusedSimpArgs false
set_option linter.unusedVariables false
namespace Go.Proofs.Ytmdkhnndfhcfdaa.Mt
/-- the normal form of a set, where there is one -/
noncomputable def nfo (l : List Iv) : List Iv := by
  classical
  exact if h : ∃ R, Nf R ∧ ∀ t, Hs R t ↔ Hs l t then Classical.choose h else []
theorem nfo_eq {l R : List Iv} (h : Nf R) (hs : ∀ t, Hs R t ↔ Hs l t) : nfo l = R := by
  classical
  have he : ∃ R, Nf R ∧ ∀ t, Hs R t ↔ Hs l t := ⟨R, h, hs⟩
  have e : nfo l = Classical.choose he := by unfold nfo; rw [dif_pos he]
  have hc := Classical.choose_spec he
  rw [e]
  exact Nf.one hc.1 h (fun t => (hc.2 t).trans (hs t).symm)
noncomputable def lnS (l : List Iv) : Int := lenk (nfo l) (nfo l).length
theorem lnS_eq {l R : List Iv} (h : Nf R) (hs : ∀ t, Hs R t ↔ Hs l t) : lnS l = lenk R R.length := by unfold lnS; rw [nfo_eq h hs]
def Cvd (l : List Iv) (x y : Int) : Prop := Ok (x, y) ∧ ∀ t, x ≤ t → t < y → Hs l t
noncomputable def cvB (l : List Iv) (x y : Int) : Bool := by
  classical
  exact decide (Cvd l x y)
theorem cvB_yes {l : List Iv} {x y : Int} (h : Cvd l x y) : cvB l x y = true := by unfold cvB; exact @decide_eq_true _ (Classical.propDecidable _) h
theorem cvB_no {l : List Iv} {x y : Int} (h : ¬ Cvd l x y) : cvB l x y = false := by unfold cvB; exact @decide_eq_false _ (Classical.propDecidable _) h
theorem cvB_bad {l : List Iv} {x y : Int} (h : okB x y = false) : cvB l x y = false := cvB_no fun k => by
  have := okB_yes k.1
  rw [h] at this; cases this
/-- nothing of the interval remains without the set: it is covered -/
theorem cv_left {l R : List Iv} {x y : Int} (ho : Ok (x, y)) (h : ∀ t, Hs R t ↔ Hs [(x, y)] t ∧ ¬ Hs l t) (hn : Nf R) : cvB l x y = decide (R.length = 0) := by
  rcases R with _ | ⟨v, R⟩
  · rw [cvB_yes]; · rfl
    refine ⟨ho, fun t h1 h2 => ?_⟩
    rcases Classical.em (Hs l t) with k | k
    · exact k
    · exact absurd ((h t).2 ⟨(Hs.single _ _).2 ⟨ho, h1, h2⟩, k⟩) (Hs.nil t)
  · rw [cvB_no]; · rfl
    intro k
    have o := hn.1
    have := (h v.1).1 ((Hs.cons _ _ _).2 (.inl ⟨o, Int.le_refl _, o.2.1⟩))
    have h1 := (Hs.single _ _).1 this.1
    exact this.2 (k.2 _ h1.2.1 h1.2.2)
end Go.Proofs.Ytmdkhnndfhcfdaa.Mt
namespace Go.Proofs.Ytmdkhnndfhcfdaa.Wk
open Go.RowKit
open Go.Proofs.Ytmdkhnndfhcfdaa.Mt
theorem LnR.one {w : World} {l : List Iv} {e : Ending} {w' : World} (h : LnR w l e w') : e = .returned (.int .i64 (lnS l)) ∧ Below w.heap.size w w' := by
  obtain ⟨R, h1, h2, h3, h4⟩ := h
  exact ⟨by rw [h3, lnS_eq h1 h2], h4⟩
theorem len22 (A : Option Addr) (n c : Nat) (a : List Iv) (w : World) (h : Rp w w.heap.size A n a) (hn : n ≤ 1000) : Calls Try.prog 22 #[.slice A n c] w fun e w' => e = .returned (.int .i64 (lnS a)) ∧ Below w.heap.size w w' :=
  (length22 A n c a w h hn).mono fun e w' hh => LnR.one hh
theorem len23 (A : Option Addr) (n c : Nat) (a : List Iv) (w : World) (h : Rp w w.heap.size A n a) (hn : n ≤ 400) : Calls Try.prog 23 #[.slice A n c] w fun e w' => e = .returned (.int .i64 (lnS a)) ∧ Below w.heap.size w w' :=
  (length23 A n c a w h hn).mono fun e w' hh => LnR.one hh
theorem rp_one {w : World} {g : Nat} {x y : Int} (h : Bx w g 25 #[.int .i64 x, .int .i64 y]) (hx : In64 x) (hy : In64 y) : Rp w w.heap.size (some ⟨g, 0, none⟩) 1 [(x, y)] := by
  refine ⟨rfl, by omega, fun _ => ⟨g, 0, rfl, h.lt, fun i hi => ?_⟩, fun i => ?_⟩
  · obtain rfl : i = 0 := by omega
    exact h.cells2
  · rcases i with _ | i
    · exact ⟨hx, hy⟩
    · simp [vat, In64]
set_option maxHeartbeats 1000000 in
theorem covers26 (A : Option Addr) (n c : Nat) (l : List Iv) (x y : Int) (w : World) (h : Rp w w.heap.size A n l) (hn : n ≤ 900) : Calls Try.prog 26 #[.slice A n c, .agg #[.int .i64 x, .int .i64 y]] w fun e w' => e = .returned (.bool (cvB l x y)) ∧ Below w.heap.size w w' := by
  have HA := Lib.hid h
  clear h
  go_enter Try.func26, Try.ntmps26
  go_wp2_with fail
  refine (valid10 x y _).mono ?_
  rintro e w1 ⟨rfl, hb⟩
  have HX := Lib.hid ((Bx.new w 25 #[.int .i64 x, .int .i64 y]).next hb)
  have HB1 := Lib.hid (((Below.refl w.heap.size w).alloc (Nat.le_refl _) (.cells #[.int .i64 x, .int .i64 y] 25)).trans (hb.mono (by simp)))
  clear hb
  obtain ⟨c0, c1⟩ := HX.out.cells2
  have hlx := HX.out.lt
  obtain ⟨q, hq⟩ : ∃ q, okB x y = q := ⟨_, rfl⟩
  have HQ := Lib.hid hq
  rw [hq]
  clear hq
  rcases fot q with rfl | rfl
  · have HE := Lib.hid (cvB_bad (l := l) HQ.out)
    go_wp2_with fail
    go_ret
    exact ⟨by rw [HE.out]; rfl, HB1.out⟩
  · have HO : Hid (Ok (x, y)) := Lib.hid (by have := HQ.out; unfold okB at this; simpa using this)
    have HI : Hid (In64 x ∧ In64 y) := Lib.hid (by have := HO.out; unfold Ok at this; unfold In64; simp only at this; omega)
    have HY := Lib.hid (Bx.new w1 25 #[.int .i64 x, .int .i64 y])
    have HR := Lib.hid (rp_one HY.out HI.out.1 HI.out.2)
    have HB2 := Lib.hid (HB1.out.alloc HB1.out.size (.cells #[.int .i64 x, .int .i64 y] 25))
    go_wp2_with fail
    refine (minus20 _ A 1 n _ c [(x, y)] l _ HR.out (HA.out.up HB2.out) (by omega) hn).mono ?_
    rintro e w3 ⟨A3, c3, R3, rfl, h1, h2, h3, h4, h5, h6, h7⟩
    have HC3 := Lib.hid h1
    have HR3 := Lib.hid h2
    have HF3 := Lib.hid h3
    have HN3 := Lib.hid h4
    have HS3 := Lib.hid h5
    have HB3 := Lib.hid h6
    have HL3 := Lib.hid h7
    clear h1 h2 h3 h4 h5 h6 h7
    have HE := Lib.hid (cv_left HO.out HS3.out HN3.out)
    obtain ⟨N, hN⟩ : ∃ N, R3.length = N := ⟨_, rfl⟩
    have HN := Lib.hid hN
    rw [hN] at HE ⊢
    clear hN c0 c1
    rcases N with _ | N
    · go_wp2_with fail
      go_ret
      exact ⟨by rw [HE.out]; rfl, upB HB2.out HB3.out⟩
    · have e1 : ((((N + 1 : Nat) : Int)) == 0) = false := by simp; omega
      have e2 : (((N : Int) + 1) == 0) = false := by simp; omega
      go_wp2_with fail
      go_ret
      exact ⟨by rw [HE.out]; rfl, upB HB2.out HB3.out⟩
set_option maxHeartbeats 1000000 in
theorem covers27 (A : Option Addr) (n c : Nat) (l : List Iv) (x y : Int) (w : World) (h : Rp w w.heap.size A n l) (hn : n ≤ 400) : Calls Try.prog 27 #[.slice A n c, .agg #[.int .i64 x, .int .i64 y]] w fun e w' => e = .returned (.bool (cvB l x y)) ∧ Below w.heap.size w w' := by
  have HA := Lib.hid h
  clear h
  go_enter Try.func27, Try.ntmps27
  go_wp2_with fail
  refine (valid11 x y _).mono ?_
  rintro e w1 ⟨rfl, hb⟩
  have HX := Lib.hid ((Bx.new w 25 #[.int .i64 x, .int .i64 y]).next hb)
  have HB1 := Lib.hid (((Below.refl w.heap.size w).alloc (Nat.le_refl _) (.cells #[.int .i64 x, .int .i64 y] 25)).trans (hb.mono (by simp)))
  clear hb
  obtain ⟨c0, c1⟩ := HX.out.cells2
  have hlx := HX.out.lt
  obtain ⟨q, hq⟩ : ∃ q, okB x y = q := ⟨_, rfl⟩
  have HQ := Lib.hid hq
  rw [hq]
  clear hq
  rcases fot q with rfl | rfl
  · have HE := Lib.hid (cvB_bad (l := l) HQ.out)
    go_wp2_with fail
    go_ret
    exact ⟨by rw [HE.out]; rfl, HB1.out⟩
  · have HO : Hid (Ok (x, y)) := Lib.hid (by have := HQ.out; unfold okB at this; simpa using this)
    have HI : Hid (In64 x ∧ In64 y) := Lib.hid (by have := HO.out; unfold Ok at this; unfold In64; simp only at this; omega)
    have HY := Lib.hid (Bx.new w1 25 #[.int .i64 x, .int .i64 y])
    have HR := Lib.hid (rp_one HY.out HI.out.1 HI.out.2)
    have HB2 := Lib.hid (HB1.out.alloc HB1.out.size (.cells #[.int .i64 x, .int .i64 y] 25))
    go_wp2_with fail
    refine (ref21 _ A 1 n _ c [(x, y)] l _ HR.out (HA.out.up HB2.out) (by omega) hn).mono ?_
    rintro e w3 ⟨A3, c3, R3, rfl, h1, h2, h3, h4, h5, h6, h7⟩
    have HC3 := Lib.hid h1
    have HR3 := Lib.hid h2
    have HF3 := Lib.hid h3
    have HN3 := Lib.hid h4
    have HS3 := Lib.hid h5
    have HB3 := Lib.hid h6
    have HL3 := Lib.hid h7
    clear h1 h2 h3 h4 h5 h6 h7
    have HE := Lib.hid (cv_left HO.out HS3.out HN3.out)
    obtain ⟨N, hN⟩ : ∃ N, R3.length = N := ⟨_, rfl⟩
    have HN := Lib.hid hN
    rw [hN] at HE ⊢
    clear hN c0 c1
    rcases N with _ | N
    · go_wp2_with fail
      go_ret
      exact ⟨by rw [HE.out]; rfl, upB HB2.out HB3.out⟩
    · have e1 : ((((N + 1 : Nat) : Int)) == 0) = false := by simp; omega
      have e2 : (((N : Int) + 1) == 0) = false := by simp; omega
      go_wp2_with fail
      go_ret
      exact ⟨by rw [HE.out]; rfl, upB HB2.out HB3.out⟩
theorem Gr.made {w wr : World} {x y : Int} (hb : Below w.heap.size w wr) : Gr w (wr.alloc (.cells #[.int .i64 x, .int .i64 y] 25)) (.slice (some ⟨wr.heap.size, 0, none⟩) 1 1) [(x, y)] :=
  ⟨hb.alloc hb.size _, by rw [fl_len], .inr ⟨wr.heap.size, 1, #[.int .i64 x, .int .i64 y], rfl, hb.size, heap_alloc_new wr _, Nat.le_refl _, by unfold maxLen; simp, rfl, rfl⟩⟩
theorem one28 (x y : Int) (w : World) : Calls Try.prog 28 #[.int .i64 x, .int .i64 y] w fun e w' => ∃ v, e = .returned v ∧ Gr w w' v [(x, y)] := by
  go_enter Try.func28, Try.ntmps28
  go_wp2_with fail
  go_ret
  exact ⟨_, rfl, Gr.made (Below.refl _ _)⟩
theorem two32 (x y z u : Int) (w : World) : Calls Try.prog 32 #[.int .i64 x, .int .i64 y, .int .i64 z, .int .i64 u] w fun e w' => ∃ v, e = .returned v ∧ Gr w w' v [(x, y), (z, u)] := by
  obtain ⟨i0, hi0, hz0, hs0, hb0'⟩ := info_parts iv_info
  go_enter Try.func32, Try.ntmps32
  go_wp2_with fail
  refine (one28 x y _).mono ?_
  rintro e w1 ⟨v1, rfl, hg1⟩
  obtain ⟨g1, cap1, rfl, _, _, _⟩ := Qb.own hg1.2 (by simp)
  have HG1 := Lib.hid hg1
  clear hg1
  go_wp2_with fail
  refine (one28 z u _).mono ?_
  rintro e w2 ⟨v2, rfl, hg2⟩
  have HG2 := Lib.hid (HG1.out.below hg2.1)
  obtain ⟨g, cap, rfl, hcap, hgb, hq⟩ := Qb.own hg2.2 (by simp)
  have HQ := Lib.hid hq
  have HCC : Hid (∀ j v, [Value.int .i64 z, Value.int .i64 u][j]? = some v → w2.cell? ((⟨g, 0, none⟩ : Addr).add j) = some v) := Lib.hid (fun j v hv => by
    have e : (⟨g, 0, none⟩ : Addr).add j = ⟨g, j, none⟩ := by unfold Addr.add; by_cases hj : j = 0 <;> simp [hj]
    obtain ⟨c0, c1⟩ := HQ.out.cell (i := 0) (by simp)
    rw [e]
    rcases j with _ | _ | j
    · simp at hv; subst hv; exact c0
    · simp at hv; subst hv; exact c1
    · simp at hv)
  have hsz := HG2.out.1.size
  have HOW := Lib.hid HG2.out.2
  clear hg2 hq hgb
  go_wp2_with (first | (go_loud (at_builtin; refine wpList_append_own _ rfl _ _ 22 rfl w.heap.size 25 i0 (.agg #[.int .i64 0, .int .i64 0]) 2 16 Try.underlying22 hi0 hz0 hs0 hb0' rfl (by omega) _ _ _ rfl HOW.out ⟨_, 0, none⟩ 1 cap [.int .i64 z, .int .i64 u] rfl rfl HCC.out (two_one z u) (by unfold maxLen; simp) (by simp) hsz ?_)) | fail)
  intro v' w9 hown hgrow _
  have HG9 := Lib.hid (Gr.appW (s := [(x, y)]) HG2.out hown hgrow)
  clear hown hgrow
  go_wp2_with fail
  go_ret
  exact ⟨_, rfl, HG9.out⟩
end Go.Proofs.Ytmdkhnndfhcfdaa.Wk
