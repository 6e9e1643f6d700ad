/- The contract of Spans in the layer. No condition. -/
import Derived.Test.YtfpndiacbpinpaaDoorSpm
set_option linter.unusedSimpArgs false
set_option linter.unusedVariables false
namespace Go.Proofs.YtfpndiacbpinpaaDoor.Wk
open Go.RowKit
open Go.Proofs.YtfpndiacbpinpaaDoor.Mt
/-- what Spans hands back -/
def SpR (S : List (Int × Int) × Int) (w0 : World) (e : Ending) (w' : World) : Prop := (∃ A n c, e = .returned (.tuple #[.slice A n c, .int .i64 S.2]) ∧ Rv w' w'.heap.size A n S.1) ∧ Below w0.heap.size w0 w'
theorem SpR.nil {S : List (Int × Int) × Int} {c : Int} {w0 w' : World} (hS : S = ([], c)) (hb : Below w0.heap.size w0 w') : SpR S w0 (.returned (.tuple #[.slice none 0 0, .int .i64 c])) w' := by
  subst hS; exact ⟨⟨_, _, _, rfl, Rv.nil_ _ _⟩, hb⟩
theorem SpR.own {S : List (Int × Int) × Int} {l : List (Int × Int)} {A : Option Addr} {n c : Nat} {w0 w' : World} (h1 : S.1 = l) (h2 : S.2 = 0) (hR : Rv w' w'.heap.size A n l) (hb : Below w0.heap.size w0 w') : SpR S w0 (.returned (.tuple #[.slice A n c, .int .i64 0])) w' :=
  ⟨⟨_, _, _, by rw [h2], by rw [h1]; exact hR⟩, hb⟩
theorem two_one (x y : Int) : ∀ u ∈ [Value.int .i64 x, Value.int .i64 y], u.oneCell' = true := by intro u hu; simp at hu; rcases hu with rfl | rfl <;> rfl
theorem Ro.base {w0 wr : World} {cw ci : Array Value} {v : Value} {l : List (Int × Int)} (h : Ro w0 wr cw ci v l) (o : Obj) : w0.heap.size + 2 ≤ (wr.alloc o).heap.size := by have := h.bi.lt; simp; omega
theorem new_cells (w : World) (x y : Value) (t : TypeId) : ∀ (j : Nat) (u : Value), [x, y][j]? = some u → (w.alloc (.cells #[x, y] t)).cell? ((⟨w.heap.size, 0, none⟩ : Addr).add j) = some u := by
  intro j u h
  have hB := (Bx.new w t #[x, y]).cell j
  unfold Addr.add
  by_cases hj : j = 0
  · subst hj; simp at h ⊢; exact h
  · simp only [hj, if_false]
    rw [show (0 + j) = j by omega, hB]; simpa using h
set_option maxHeartbeats 8000000 in
set_option maxRecDepth 100000 in
theorem spans_any (d f t a b : Int) (w : World) : Calls Tryd.prog 26 #[.agg #[.int .i64 d, .int .i64 f, .int .i64 t], .agg #[.int .i64 a, .int .i64 b]] w (SpR (spansS d f t a b) w) := by
  have HR := Lib.hid (Ro.start w #[.int .i64 d, .int .i64 f, .int .i64 t] #[.int .i64 a, .int .i64 b])
  obtain ⟨i0, hi0, hz0, hs0, hb0'⟩ := info_parts ivl_info
  by_cases q1 : a < 0
  · have HS := Lib.hid (sp_time (d := d) (f := f) (t := t) (show vi a b = false by simp [vi]; omega))
    go_enter Tryd.func26, Tryd.ntmps26
    go_wp2_with fail
    go_ret2
    exact SpR.nil HS.out HR.out.bel
  by_cases q2 : b ≤ a
  · have HS := Lib.hid (sp_time (d := d) (f := f) (t := t) (show vi a b = false by simp [vi]; omega))
    go_enter Tryd.func26, Tryd.ntmps26
    go_wp2_with fail
    go_ret2
    exact SpR.nil HS.out HR.out.bel
  by_cases q3 : 68719476736 < b
  · have HS := Lib.hid (sp_time (d := d) (f := f) (t := t) (show vi a b = false by simp [vi]; omega))
    go_enter Tryd.func26, Tryd.ntmps26
    go_wp2_with fail
    go_ret2
    exact SpR.nil HS.out HR.out.bel
  have hv : vi a b = true := (vi_iff a b).2 ⟨by omega, by omega, by omega⟩
  have hF0 : 0 ≤ a / 86400 ∧ a / 86400 ≤ 795364 := by omega
  have hL0 : a / 86400 ≤ (b - 1) / 86400 ∧ (b - 1) / 86400 ≤ 795364 := by omega
  have E1 := IntWalk.i64_in (b - 1) (by omega)
  have hb1 : 0 ≤ b - 1 := by omega
  have hb2 : b - 1 < 68719476736 := by omega
  have ha1 : 0 ≤ a := by omega
  have ha2 : a < 68719476736 := by omega
  obtain ⟨F, hF⟩ : ∃ F, a / 86400 = F := ⟨_, rfl⟩
  obtain ⟨L, hL⟩ : ∃ L, (b - 1) / 86400 = L := ⟨_, rfl⟩
  have HF := Lib.hid hF
  have HLL := Lib.hid hL
  rw [hF] at hF0 hL0
  rw [hL] at hL0
  by_cases q4 : 366 ≤ L - F
  · have HS := Lib.hid (sp_limit (d := d) (f := f) (t := t) hv (by rw [hF, hL]; exact q4))
    clear hF hL hv
    go_enter Tryd.func26, Tryd.ntmps26
    go_wp2_with fail
    go_quiet ((go_at_call 13; exact Calls.quiet_of_same (day_q _ _ (by omega) (by omega))))
    rw [HF.out, HLL.out]
    go_wp2_with fail
    go_ret2
    exact SpR.nil HS.out (below_drewN HR.out.bel _)
  rcases fot (vw d f t) with hw | hw
  · have HS := Lib.hid (sp_none hv (by rw [hF, hL]; exact q4) hw)
    have HW := Lib.hid hw
    clear hF hL hv hw
    go_enter Tryd.func26, Tryd.ntmps26
    go_wp2_with fail
    go_quiet ((go_at_call 13; exact Calls.quiet_of_same (day_q _ _ (by omega) (by omega))))
    rw [HF.out, HLL.out]
    go_wp2_with fail
    refine (vwin_any d f t _).mono ?_
    rintro e w1 ⟨rfl, hb⟩
    rw [HW.out]
    replace HR := Lib.hid (HR.out.nextN hb)
    clear hb
    go_wp2_with fail
    go_ret2
    exact SpR.nil HS.out HR.out.bel
  · have HS := Lib.hid (sp_ok hv (by rw [hF, hL]; exact q4) hw hF hL)
    have HW := Lib.hid hw
    obtain ⟨v1, v2, v3, v4, v5⟩ := (vw_iff d f t).1 hw
    clear hF hL hv hw
    go_enter Tryd.func26, Tryd.ntmps26
    go_wp2_with fail
    go_quiet ((go_at_call 13; exact Calls.quiet_of_same (day_q _ _ (by omega) (by omega))))
    rw [HF.out, HLL.out]
    clear E1
    go_wp2_with fail
    refine (vwin_any d f t _).mono ?_
    rintro e w1 ⟨rfl, hb⟩
    rw [HW.out]
    replace HR := Lib.hid (HR.out.nextN hb)
    clear hb
    obtain ⟨c0, c1, c2⟩ := HR.out.bw.cells3
    obtain ⟨e0, e1⟩ := HR.out.bi.cells2
    go_wp2_with fail
    clear c0 c1 c2 e0 e1
    go_loopw [8, 9] (fun v yy wr => ∃ k : Nat, k ≤ (L - F + 1).toNat ∧ yy = .int .i64 (F + (k : Int)) ∧ Hid (Ro w wr #[.int .i64 d, .int .i64 f, .int .i64 t] #[.int .i64 a, .int .i64 b] v (spn d f t a b F k))) (fun _ yy _ => (L + 1 - intOf yy).toNat)
    case atStart => exact ⟨0, Nat.zero_le _, congrArg _ (by simp), HR⟩
    case round =>
      clear HR
      obtain ⟨k, hk, rfl, HR⟩ := hrel
      obtain ⟨l, hl⟩ : ∃ l, spn d f t a b F k = l := ⟨_, rfl⟩
      have HLN : Hid (l.length ≤ k) := Lib.hid (by rw [← hl]; exact spn_len _ _ _ _ _ _ _)
      rw [hl] at HR
      have HL := Lib.hid hl
      clear hl
      by_cases hlt : (k : Int) < L - F + 1
      · obtain ⟨y, hy⟩ : ∃ y, F + (k : Int) = y := ⟨_, rfl⟩
        have HY := Lib.hid hy
        have hyL : y ≤ L := by omega
        rw [hy]
        have hy0 : 0 ≤ y := by omega
        have hy1 : y ≤ 795364 := by omega
        obtain ⟨fr, hfr⟩ : ∃ fr, frm f a y = fr := ⟨_, rfl⟩
        obtain ⟨to, hto⟩ : ∃ to, tot t b y = to := ⟨_, rfl⟩
        obtain ⟨bb, hbb⟩ : ∃ bb, bt d (y % 7) = bb := ⟨_, rfl⟩
        have HSK : Hid (¬ (bb = true ∧ fr < to) → spn d f t a b F (k + 1) = l) := Lib.hid (fun h => spn_skip HY.out HL.out (by rw [hbb, hfr, hto]; exact h))
        have HPU : Hid (bb = true ∧ fr < to → spn d f t a b F (k + 1) = push l fr to) := Lib.hid (fun h => by rw [spn_push HY.out HL.out (by rw [hbb, hfr, hto]; exact h), hfr, hto])
        have HBB := Lib.hid hbb
        clear hbb
        clear hy
        obtain ⟨c0, c1, c2⟩ := HR.out.bw.cells3
        obtain ⟨e0, e1⟩ := HR.out.bi.cells2
        go_wp2_with fail
        have efr : max a (y * 86400 + f * 60) = fr := hfr
        have eto : min b (y * 86400 + t * 60) = to := hto
        rw [efr, eto]
        clear efr eto hfr hto
        refine (onDay_any _ _ _ _ _ (by omega) (by omega) (by omega) (by omega)).mono ?_
        rintro e w2 ⟨rfl, hb⟩
        rw [HBB.out]
        replace HR := Lib.hid (HR.out.next hb)
        clear hb c0 c1 c2 e0 e1
        have hyn : F + (k : Int) = y := HY.out
        rcases fot bb with rfl | rfl
        · have HX := Lib.hid (HSK.out (by simp))
          clear hyn
          go_wp2_with fail
          go_roundw
          case rel => exact ⟨k + 1, by omega, congrArg _ (by have := HY.out; omega), Lib.hid (by rw [HX.out]; exact HR.out)⟩
          case measure => simp [intOf]; omega
        · by_cases q5 : fr < to
          · have q5' : decide (to ≤ fr) = false := decide_eq_false (by omega)
            have HP := Lib.hid (HPU.out ⟨rfl, q5⟩)
            clear hyn q5
            rcases snoc_cases l with rfl | ⟨l, p, rfl⟩
            · obtain rfl := HR.out.nl rfl
              have HX : Hid (spn d f t a b F (k + 1) = [] ++ [(fr, to)]) := Lib.hid (by rw [HP.out, push_nil]; rfl)
              have H3 : Hid (([] : List (Int × Int)).length + 1 ≤ maxLen) := Lib.hid (by unfold maxLen; simp; try omega)
              have H4 : Hid ((([] : List (Int × Int)).length + 1) * 16 ≤ 140737488355328) := Lib.hid (by simp; try omega)
              go_wp2_with (at_builtin; refine wpList_append_own _ rfl _ _ 39 rfl (w.heap.size + 2) 38 i0 (.agg #[.int .i64 0, .int .i64 0]) 2 16 Tryd.underlying39 hi0 hz0 hs0 hb0' rfl (by omega) _ _ _ rfl (HR.out.ow.alloc _) ⟨_, 0, none⟩ 1 1 [.int .i64 fr, .int .i64 to] rfl rfl (new_cells _ _ _ _) (two_one _ _) H3.out H4.out (HR.out.base _) ?_)
              intro v' w9 hown hgrow _
              have HR9 := Lib.hid (HR.out.app (by first | exact hown | (rw [List.length_append]; exact hown)) hgrow)
              clear hown hgrow
              go_wp2_with fail
              go_roundw
              case rel => exact ⟨k + 1, by omega, congrArg _ (by have := HY.out; omega), Lib.hid (by rw [HX.out]; exact HR9.out)⟩
              case measure => simp [intOf]; omega
            · obtain ⟨g, cap, rfl, hgb, hgl, hcell, hfree⟩ := HR.out.form
              have hll : l.length < 366 := by have := HLN.out; simp at this; omega
              have hi1 : decide ((0 : Int) < (l.length : Int) + 1) = true := decide_eq_true (by omega)
              by_cases hj : p.2 = fr
              · have HX : Hid (spn d f t a b F (k + 1) = l ++ [(p.1, to)]) := Lib.hid (by rw [HP.out, push_join hj])
                have hj' : (p.2 == fr) = true := by simp [hj]
                clear hj
                go_wp2_with fail
                replace HR := Lib.hid (HR.out.stored (b := to) hgb)
                go_roundw
                case rel => exact ⟨k + 1, by omega, congrArg _ (by have := HY.out; omega), Lib.hid (by rw [HX.out]; exact HR.out)⟩
                case measure => simp [intOf]; omega
              · have HX : Hid (spn d f t a b F (k + 1) = l ++ [p] ++ [(fr, to)]) := Lib.hid (by rw [HP.out, push_more hj])
                have hj' : (p.2 == fr) = false := by simp [hj]
                clear hj
                have H3 : Hid ((l ++ [p]).length + 1 ≤ maxLen) := Lib.hid (by unfold maxLen; simp; try omega)
                have H4 : Hid (((l ++ [p]).length + 1) * 16 ≤ 140737488355328) := Lib.hid (by simp; try omega)
                go_wp2_with (at_builtin; refine wpList_append_own _ rfl _ _ 39 rfl (w.heap.size + 2) 38 i0 (.agg #[.int .i64 0, .int .i64 0]) 2 16 Tryd.underlying39 hi0 hz0 hs0 hb0' rfl (by omega) _ _ _ rfl (HR.out.ow.alloc _) ⟨_, 0, none⟩ 1 1 [.int .i64 fr, .int .i64 to] rfl rfl (new_cells _ _ _ _) (two_one _ _) H3.out H4.out (HR.out.base _) ?_)
                intro v' w9 hown hgrow _
                have HR9 := Lib.hid (HR.out.app (by first | exact hown | (rw [List.length_append]; exact hown)) hgrow)
                clear hown hgrow
                go_wp2_with fail
                go_roundw
                case rel => exact ⟨k + 1, by omega, congrArg _ (by have := HY.out; omega), Lib.hid (by rw [HX.out]; exact HR9.out)⟩
                case measure => simp [intOf]; omega
          · have q5' : decide (to ≤ fr) = true := decide_eq_true (by omega)
            have HX := Lib.hid (HSK.out (fun h => q5 h.2))
            clear hyn q5
            go_wp2_with fail
            go_roundw
            case rel => exact ⟨k + 1, by omega, congrArg _ (by have := HY.out; omega), Lib.hid (by rw [HX.out]; exact HR.out)⟩
            case measure => simp [intOf]; omega
      · have hyL : ¬ F + (k : Int) ≤ L := by omega
        have HE : Hid ((spansS d f t a b).1 = l ∧ (spansS d f t a b).2 = 0) := Lib.hid (by rw [HS.out]; refine ⟨?_, rfl⟩; rw [← HL.out, show k = (L - F + 1).toNat by omega])
        have hll : l.length ≤ 9223372036854775807 := by have := HLN.out; omega
        obtain ⟨A, n, c, hv', hRv⟩ := Rv.of_own HR.out.ow hll
        subst hv'
        have HV := Lib.hid hRv
        clear hRv
        go_wp2_with fail
        go_ret2
        exact SpR.own HE.out.1 HE.out.2 HV.out HR.out.bel
end Go.Proofs.YtfpndiacbpinpaaDoor.Wk
