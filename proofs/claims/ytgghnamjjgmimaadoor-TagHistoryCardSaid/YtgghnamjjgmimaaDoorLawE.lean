/- The law of histories, walked. Conditions: the slice reads as states; the table of powers reads as the program lays it. -/
import Derived.Test.YtgghnamjjgmimaaDoorHi
set_option linter.unusedSimpArgs false
set_option linter.unusedVariables false
namespace Go.Proofs.YtgghnamjjgmimaaDoor.Wk
open Go.RowKit
open Go.Proofs.YtgghnamjjgmimaaDoor.Mt
theorem u8_r' {a : Int} (h : (Lit.int .u8 a).wf = true) : 0 ≤ a ∧ a ≤ 255 := u8_r h
theorem state22' (args : Array Value) (A : Option Addr) (n c : Nat) (l : List Ts) (s : ByteArray) (t : Int) (w : World) (ha : args = #[.slice A n c, .string s, .int .i64 t]) (h : Rt w w.heap.size A n l) : Calls Tryd.prog 22 args w fun e w' => e = .returned (.int .i64 (stS l s t)) ∧ Below w.heap.size w w' := by
  subst ha; exact state22 A n c l s t w h
set_option maxHeartbeats 4000000 in
set_option maxRecDepth 100000 in
theorem history_law (A : Option Addr) (n c : Nat) (l : List Ts) (at' : Int) (w : World) (h : Rt w w.heap.size A n l) (ht : Tb w) (hat : 0 ≤ at' ∧ at' ≤ 255) : Calls Tryd.prog 10 #[.slice A n c, .int .u8 at'] w fun e w' => e = .returned (.bool true) ∧ Below w.heap.size w w' := by
  have HT := Lib.hid ht
  have HR := Lib.hid h
  have HL := Lib.hid h.1
  have HRW := Lib.hid h
  have HB := Lib.hid (Below.refl w.heap.size w)
  have hn := h.2.1
  clear ht h
  by_cases hz0 : n = 0
  · have E0 : ((n : Int) == 0) = true := by simp [hz0]
    go_enter Tryd.func10, Tryd.ntmps10
    go_wp2_with fail
    go_ret
    exact ⟨rfl, Below.refl _ _⟩
  · have E0 : ((n : Int) == 0) = false := by simp; omega
    by_cases hbig : 100 < n
    · have E1 : (100 : Int) < (n : Int) := by omega
      go_enter Tryd.func10, Tryd.ntmps10
      go_wp2_with fail
      go_ret
      exact ⟨rfl, Below.refl _ _⟩
    · have E1 : decide ((100 : Int) < (n : Int)) = false := decide_eq_false (by omega)
      obtain ⟨cv, hcv⟩ : ∃ cv, caS l = cv := ⟨_, rfl⟩
      have HCV := Lib.hid hcv
      clear hcv
      by_cases hc0 : cv = 0
      · have E2 : (cv != 0) = false := by simp [hc0]
        have HOK := Lib.hid (okl (l := l) (n := n) (fun i hi => by
          have h1 := HCV.out
          unfold caS at h1
          rw [HL.out, if_neg (by omega), hc0] at h1
          exact fe_all.1 h1 i hi))
        clear hc0
        obtain ⟨i, hi⟩ : ∃ i : Nat, Int.tmod at' (n : Int) = (i : Int) ∧ i < n := ⟨(at' % (n : Int)).toNat, by rw [Int.tmod_eq_emod_of_nonneg hat.1]; have := Int.emod_nonneg at' (show (n : Int) ≠ 0 by omega); omega, by have := Int.emod_lt_of_pos at' (show (0 : Int) < (n : Int) by omega); have := Int.emod_nonneg at' (show (n : Int) ≠ 0 by omega); omega⟩
        obtain ⟨hi, hin⟩ := hi
        have F0 : IntKind.i64.wrap at' = at' := IntWalk.i64_in _ (by omega)
        have F1 : IntKind.i64.wrap (i : Int) = (i : Int) := IntWalk.i64_in _ (by omega)
        have F2 : ¬ (n : Int) = 0 := by omega
        have F3 : ((n : Int) == 0) = false := E0
        have hi0 : (0 : Int) ≤ (i : Int) := by omega
        have hinI : (i : Int) < (n : Int) := by omega
        go_enter Tryd.func10, Tryd.ntmps10
        go_wp2_with fail
        refine (checkAll20 A n c l _ HR.out).mono ?_
        rintro e w4 ⟨rfl, hb⟩
        rw [HCV.out]
        replace HB := Lib.hid (upB HB.out hb)
        replace HR := Lib.hid (HR.out.up hb)
        replace HT := Lib.hid (HT.out.next hb)
        clear hb
        obtain ⟨b, off, rfl, hbb, hjunk⟩ := HR.out.2.2.1 (by omega)
        clear hjunk hbb
        have HCE : Hid (∀ i, i < n → ∀ W, Below w.heap.size w W → b < W.heap.size ∧ W.cell? ⟨b, off + i * 3, none⟩ = some (.string (tat l i).1) ∧ W.cell? ⟨b, off + i * 3 + 1, none⟩ = some (.int .i64 (tat l i).2.1) ∧ W.cell? ⟨b, off + i * 3 + 2, none⟩ = some (.int .i64 (tat l i).2.2)) := Lib.hid (fun i hi W hW => by
          obtain ⟨b', o', e, hlt', hc⟩ := (HRW.out.up hW).2.2.1 (by omega)
          injection e with e
          injection e with e1 e2
          subst e1 e2
          exact ⟨hlt', hc i hi⟩)
        obtain ⟨hb2, d0, d1, d2⟩ := HCE.out i hin w4 HB.out
        have htm := HOK.out.time i hin
        obtain ⟨⟨s, f, z⟩, hv⟩ : ∃ v, tat l i = v := ⟨_, rfl⟩
        have HV := Lib.hid hv
        rw [hv] at d0 d1 d2 htm
        simp only at d0 d1 d2 htm
        have H1 : Hid (stS l s f = z) := Lib.hid (by have := HOK.out.at_from HL.out hin; rw [hv] at this; exact this)
        have E3 : IntKind.i64.wrap (f - 1) = f - 1 := IntWalk.i64_in _ (by omega)
        have E4 : (z == z) = true := by simp
        obtain ⟨gx, hgx⟩ : ∃ g, w4.heap.size = g := ⟨_, rfl⟩
        have HX : Hid (Bx (w4.alloc (.cells #[.string s, .int .i64 f, .int .i64 z] 45)) w4.heap.size 45 #[.string s, .int .i64 f, .int .i64 z]) := Lib.hid (Bx.new _ _ _)
        have hb := b1 w4 (.cells #[.string s, .int .i64 f, .int .i64 z] 45)
        replace HB := Lib.hid (upB HB.out hb)
        replace HR := Lib.hid (HR.out.up hb)
        replace HT := Lib.hid (HT.out.next hb)
        clear hb
        rw [hgx] at HX
        obtain ⟨x0, x1, x2⟩ := HX.out.cells3
        have hlx := HX.out.lt
        clear hv htm
        rcases i with _ | j
        · have H3 : Hid (stS l s (f - 1) = 1) := Lib.hid (by have := HOK.out.before_none HL.out (i := 0) hin (.inl rfl); rw [HV.out] at this; exact this)
          have q4 : decide ((0 : Int) < ((0 : Nat) : Int)) = false := by decide
          have E8 : ((1 : Int) == 1) = true := rfl
          simp only [Nat.zero_mul, Nat.add_zero] at d0 d1 d2
          go_wp2_with fail
          go_quiet (fail)
          have hb := below_drewN (Below.refl (w4.alloc (.cells #[.string s, .int .i64 f, .int .i64 z] 45)).heap.size (w4.alloc (.cells #[.string s, .int .i64 f, .int .i64 z] 45))) nq
          generalize (w4.alloc (.cells #[.string s, .int .i64 f, .int .i64 z] 45)).drewN nq = w5 at hb ⊢
          replace HB := Lib.hid (upB HB.out hb)
          replace HR := Lib.hid (HR.out.up hb)
          replace HX := Lib.hid (HX.out.next hb)
          replace HT := Lib.hid (HT.out.next hb)
          clear hb
          clear x0 x1 x2 hlx
          obtain ⟨x0, x1, x2⟩ := HX.out.cells3
          have hlx := HX.out.lt
          clear d0 d1 d2 hb2
          by_cases hnx : 0 + 1 < n
          · have E5 : (1 : Int) < (n : Int) := by omega
            have E6 : IntKind.i64.wrap ((1 : Int)) = (1 : Int) := IntWalk.i64_in _ (by omega)
            have HCN := Lib.hid (HCE.out (0 + 1) hnx)
            obtain ⟨⟨sn, fn, zn⟩, hvn⟩ : ∃ v, tat l (0 + 1) = v := ⟨_, rfl⟩
            obtain ⟨hb2, n0, n1, n2⟩ := HCN.out w5 HB.out
            rw [hvn] at n0 n1 n2
            simp only [Nat.zero_add, Nat.one_mul] at n0 n1 n2
            have hI0 : (0 : Int) ≤ (1 : Int) := by omega
            obtain ⟨qn, hqn⟩ : ∃ q, (sn.toList == s.toList) = q := ⟨_, rfl⟩
            have heqn : eqb sn s = qn := hqn
            rcases fot qn with rfl | rfl
            · have H2 : Hid (stS l s 68719476735 = z) := Lib.hid (by have := HOK.out.end_last HL.out (i := 0) (by omega) (.inr ⟨hnx, by rw [hvn, HV.out]; exact heqn⟩); rw [HV.out] at this; exact this)
              clear heqn hvn
              go_wp2_with fail
              go_quiet (fail)
              have hb := below_drewN (Below.refl w5.heap.size w5) nq
              generalize w5.drewN nq = w6 at hb ⊢
              replace HB := Lib.hid (upB HB.out hb)
              replace HR := Lib.hid (HR.out.up hb)
              replace HX := Lib.hid (HX.out.next hb)
              replace HT := Lib.hid (HT.out.next hb)
              clear hb
              clear x0 x1 x2 hlx
              obtain ⟨x0, x1, x2⟩ := HX.out.cells3
              have hlx := HX.out.lt
              clear n0 n1 n2 hb2
              as_aux_lemma =>
                go_wp2_with fail
                have hb := (Below.refl w6.heap.size w6).drew
                replace HB := Lib.hid (upB HB.out hb)
                replace HR := Lib.hid (HR.out.up hb)
                replace HX := Lib.hid (HX.out.next hb)
                replace HT := Lib.hid (HT.out.next hb)
                clear hb
                clear x0 x1 x2 hlx
                obtain ⟨x0, x1, x2⟩ := HX.out.cells3
                have hlx := HX.out.lt
                first | (go_region_held3 (fun w' => Hid (Below w.heap.size w w') ∧ gx < w'.heap.size ∧ w'.cell? ⟨gx, 0, none⟩ = some (.string s) ∧ w'.cell? ⟨gx, 1, none⟩ = some (.int .i64 f) ∧ w'.cell? ⟨gx, 2, none⟩ = some (.int .i64 z)) (first | exact ⟨HB, HX.out.lt, HX.out.cells3.1, HX.out.cells3.2.1, HX.out.cells3.2.2⟩ | assumption)
                  (first
                    | (go_at_call 22; refine (state22' _ (some ⟨b, off, none⟩) n c l s f _ (by rfl) HR.out).mono ?_; rintro e w9 ⟨rfl, hb⟩; rw [H1.out]; replace HB := Lib.hid (upB HB.out hb); replace HR := Lib.hid (HR.out.up hb); replace HX := Lib.hid (HX.out.next hb); replace HT := Lib.hid (HT.out.next hb); clear hb)
                    | (go_at_call 22; refine (state22' _ (some ⟨b, off, none⟩) n c l s 68719476735 _ (by rfl) HR.out).mono ?_; rintro e w9 ⟨rfl, hb⟩; rw [H2.out]; replace HB := Lib.hid (upB HB.out hb); replace HR := Lib.hid (HR.out.up hb); replace HX := Lib.hid (HX.out.next hb); replace HT := Lib.hid (HT.out.next hb); clear hb)
                    | (go_at_call 22; refine (state22' _ (some ⟨b, off, none⟩) n c l s (f - 1) _ (by rfl) HR.out).mono ?_; rintro e w9 ⟨rfl, hb⟩; rw [H3.out]; replace HB := Lib.hid (upB HB.out hb); replace HR := Lib.hid (HR.out.up hb); replace HX := Lib.hid (HX.out.next hb); replace HT := Lib.hid (HT.out.next hb); clear hb)
                    | (go_at_call 17; refine (alive17 _ HT.out).mono ?_; rintro e w9 ⟨rfl, hb⟩; replace HB := Lib.hid (upB HB.out hb); replace HX := Lib.hid (HX.out.next hb); clear hb))) | fail
                all_goals go_wp2_with fail
                all_goals go_ret
                all_goals exact ⟨rfl, HB.out⟩
            · have H2 : Hid (stS l s (fn - 1) = z) := Lib.hid (by have := HOK.out.end_next HL.out (i := 0) hnx (by rw [hvn, HV.out]; exact heqn); rw [HV.out, hvn] at this; exact this)
              have hfn := (HOK.out.time (0 + 1) hnx)
              rw [hvn] at hfn
              simp only at hfn
              have E7 : IntKind.i64.wrap (fn - 1) = fn - 1 := IntWalk.i64_in _ (by omega)
              clear heqn
              go_wp2_with fail
              go_quiet (fail)
              have hb := below_drewN (Below.refl w5.heap.size w5) nq
              generalize w5.drewN nq = w6 at hb ⊢
              replace HB := Lib.hid (upB HB.out hb)
              replace HR := Lib.hid (HR.out.up hb)
              replace HX := Lib.hid (HX.out.next hb)
              replace HT := Lib.hid (HT.out.next hb)
              clear hb
              clear x0 x1 x2 hlx
              obtain ⟨x0, x1, x2⟩ := HX.out.cells3
              have hlx := HX.out.lt
              clear n0 n1 n2 hb2
              obtain ⟨hb2, n0, n1, n2⟩ := HCN.out w6 HB.out
              rw [hvn] at n0 n1 n2
              simp only [Nat.zero_add, Nat.one_mul] at n0 n1 n2
              clear hvn hfn
              as_aux_lemma =>
                go_wp2_with fail
                have hb := (Below.refl w6.heap.size w6).drew
                replace HB := Lib.hid (upB HB.out hb)
                replace HR := Lib.hid (HR.out.up hb)
                replace HX := Lib.hid (HX.out.next hb)
                replace HT := Lib.hid (HT.out.next hb)
                clear hb
                clear x0 x1 x2 hlx
                obtain ⟨x0, x1, x2⟩ := HX.out.cells3
                have hlx := HX.out.lt
                first | (go_region_held3 (fun w' => Hid (Below w.heap.size w w') ∧ gx < w'.heap.size ∧ w'.cell? ⟨gx, 0, none⟩ = some (.string s) ∧ w'.cell? ⟨gx, 1, none⟩ = some (.int .i64 f) ∧ w'.cell? ⟨gx, 2, none⟩ = some (.int .i64 z)) (first | exact ⟨HB, HX.out.lt, HX.out.cells3.1, HX.out.cells3.2.1, HX.out.cells3.2.2⟩ | assumption)
                  (first
                    | (go_at_call 22; refine (state22' _ (some ⟨b, off, none⟩) n c l s f _ (by rfl) HR.out).mono ?_; rintro e w9 ⟨rfl, hb⟩; rw [H1.out]; replace HB := Lib.hid (upB HB.out hb); replace HR := Lib.hid (HR.out.up hb); replace HX := Lib.hid (HX.out.next hb); replace HT := Lib.hid (HT.out.next hb); clear hb)
                    | (go_at_call 22; refine (state22' _ (some ⟨b, off, none⟩) n c l s (fn - 1) _ (by rfl) HR.out).mono ?_; rintro e w9 ⟨rfl, hb⟩; rw [H2.out]; replace HB := Lib.hid (upB HB.out hb); replace HR := Lib.hid (HR.out.up hb); replace HX := Lib.hid (HX.out.next hb); replace HT := Lib.hid (HT.out.next hb); clear hb)
                    | (go_at_call 22; refine (state22' _ (some ⟨b, off, none⟩) n c l s (f - 1) _ (by rfl) HR.out).mono ?_; rintro e w9 ⟨rfl, hb⟩; rw [H3.out]; replace HB := Lib.hid (upB HB.out hb); replace HR := Lib.hid (HR.out.up hb); replace HX := Lib.hid (HX.out.next hb); replace HT := Lib.hid (HT.out.next hb); clear hb)
                    | (go_at_call 17; refine (alive17 _ HT.out).mono ?_; rintro e w9 ⟨rfl, hb⟩; replace HB := Lib.hid (upB HB.out hb); replace HX := Lib.hid (HX.out.next hb); clear hb))) | fail
                all_goals go_wp2_with fail
                all_goals go_ret
                all_goals exact ⟨rfl, HB.out⟩
          · have E5 : decide ((1 : Int) < (n : Int)) = false := decide_eq_false (by omega)
            have E6 : IntKind.i64.wrap ((1 : Int)) = (1 : Int) := IntWalk.i64_in _ (by omega)
            have H2 : Hid (stS l s 68719476735 = z) := Lib.hid (by have := HOK.out.end_last HL.out (i := 0) (by omega) (.inl (by omega)); rw [HV.out] at this; exact this)
            go_wp2_with fail
            go_quiet (fail)
            have hb := below_drewN (Below.refl w5.heap.size w5) nq
            generalize w5.drewN nq = w6 at hb ⊢
            replace HB := Lib.hid (upB HB.out hb)
            replace HR := Lib.hid (HR.out.up hb)
            replace HX := Lib.hid (HX.out.next hb)
            replace HT := Lib.hid (HT.out.next hb)
            clear hb
            clear x0 x1 x2 hlx
            obtain ⟨x0, x1, x2⟩ := HX.out.cells3
            have hlx := HX.out.lt
            as_aux_lemma =>
              go_wp2_with fail
              have hb := (Below.refl w6.heap.size w6).drew
              replace HB := Lib.hid (upB HB.out hb)
              replace HR := Lib.hid (HR.out.up hb)
              replace HX := Lib.hid (HX.out.next hb)
              replace HT := Lib.hid (HT.out.next hb)
              clear hb
              clear x0 x1 x2 hlx
              obtain ⟨x0, x1, x2⟩ := HX.out.cells3
              have hlx := HX.out.lt
              first | (go_region_held3 (fun w' => Hid (Below w.heap.size w w') ∧ gx < w'.heap.size ∧ w'.cell? ⟨gx, 0, none⟩ = some (.string s) ∧ w'.cell? ⟨gx, 1, none⟩ = some (.int .i64 f) ∧ w'.cell? ⟨gx, 2, none⟩ = some (.int .i64 z)) (first | exact ⟨HB, HX.out.lt, HX.out.cells3.1, HX.out.cells3.2.1, HX.out.cells3.2.2⟩ | assumption)
                (first
                  | (go_at_call 22; refine (state22' _ (some ⟨b, off, none⟩) n c l s f _ (by rfl) HR.out).mono ?_; rintro e w9 ⟨rfl, hb⟩; rw [H1.out]; replace HB := Lib.hid (upB HB.out hb); replace HR := Lib.hid (HR.out.up hb); replace HX := Lib.hid (HX.out.next hb); replace HT := Lib.hid (HT.out.next hb); clear hb)
                  | (go_at_call 22; refine (state22' _ (some ⟨b, off, none⟩) n c l s 68719476735 _ (by rfl) HR.out).mono ?_; rintro e w9 ⟨rfl, hb⟩; rw [H2.out]; replace HB := Lib.hid (upB HB.out hb); replace HR := Lib.hid (HR.out.up hb); replace HX := Lib.hid (HX.out.next hb); replace HT := Lib.hid (HT.out.next hb); clear hb)
                  | (go_at_call 22; refine (state22' _ (some ⟨b, off, none⟩) n c l s (f - 1) _ (by rfl) HR.out).mono ?_; rintro e w9 ⟨rfl, hb⟩; rw [H3.out]; replace HB := Lib.hid (upB HB.out hb); replace HR := Lib.hid (HR.out.up hb); replace HX := Lib.hid (HX.out.next hb); replace HT := Lib.hid (HT.out.next hb); clear hb)
                  | (go_at_call 17; refine (alive17 _ HT.out).mono ?_; rintro e w9 ⟨rfl, hb⟩; replace HB := Lib.hid (upB HB.out hb); replace HX := Lib.hid (HX.out.next hb); clear hb))) | fail
              all_goals go_wp2_with fail
              all_goals go_ret
              all_goals exact ⟨rfl, HB.out⟩
        · have q4d : decide ((0 : Int) < (j : Int) + 1) = true := decide_eq_true (by omega)
          have hi1 : (0 : Int) ≤ (j : Int) + 1 := by omega
          have hi2 : (j : Int) + 1 < (n : Int) := by omega
          have hi3 : (0 : Int) ≤ (j : Int) := by omega
          have hjI : (j : Int) < (n : Int) := by omega
          have hjn : j < n := by omega
          have q4 : (0 : Int) < (j : Int) + 1 := by omega
          have E9 : IntKind.i64.wrap ((j : Int) + 1 - 1) = (j : Int) := by rw [IntWalk.i64_in _ (by omega)]; omega
          have E10 : IntKind.i64.wrap (j : Int) = (j : Int) := IntWalk.i64_in _ (by omega)
          have HCP := Lib.hid (HCE.out j hjn)
          obtain ⟨hb3, p0, p1, p2⟩ := HCP.out _ HB.out
          obtain ⟨⟨sp, fp, zp⟩, hvp⟩ : ∃ v, tat l j = v := ⟨_, rfl⟩
          rw [hvp] at p0 p1 p2
          simp only at p0 p1 p2
          have E11 : (zp == zp) = true := by simp
          have E12 : ((1 : Int) == 1) = true := rfl
          obtain ⟨qp, hqp⟩ : ∃ q, (sp.toList == s.toList) = q := ⟨_, rfl⟩
          have heqp : eqb sp s = qp := hqp
          rcases fot qp with rfl | rfl
          · have H3 : Hid (stS l s (f - 1) = 1) := Lib.hid (by have := HOK.out.before_none HL.out (i := j + 1) hin (.inr ⟨by omega, by rw [Nat.add_sub_cancel, hvp, HV.out]; exact heqp⟩); rw [HV.out] at this; exact this)
            clear heqp
            go_wp2_with fail
            generalize w4.alloc (.cells #[.string s, .int .i64 f, .int .i64 z] 45) = w4b at HX HB HR HT x0 x1 x2 hlx p0 p1 p2 hb3 d0 d1 d2 ⊢
            go_quiet (fail)
            have hb := below_drewN (Below.refl w4b.heap.size w4b) nq
            generalize w4b.drewN nq = w5 at hb ⊢
            replace HB := Lib.hid (upB HB.out hb)
            replace HR := Lib.hid (HR.out.up hb)
            replace HX := Lib.hid (HX.out.next hb)
            replace HT := Lib.hid (HT.out.next hb)
            clear hb
            clear x0 x1 x2 hlx
            obtain ⟨x0, x1, x2⟩ := HX.out.cells3
            have hlx := HX.out.lt
            clear d0 d1 d2 hb2
            
            clear p0 p1 p2 hb3 hvp
            by_cases hnx : (j + 1) + 1 < n
            · have E5 : (j : Int) + 1 + 1 < (n : Int) := by omega
              have E6 : IntKind.i64.wrap ((j : Int) + 1 + 1) = (j : Int) + 1 + 1 := IntWalk.i64_in _ (by omega)
              have HCN := Lib.hid (HCE.out ((j + 1) + 1) hnx)
              obtain ⟨⟨sn, fn, zn⟩, hvn⟩ : ∃ v, tat l ((j + 1) + 1) = v := ⟨_, rfl⟩
              obtain ⟨hb2, n0, n1, n2⟩ := HCN.out w5 HB.out
              rw [hvn] at n0 n1 n2
              simp only at n0 n1 n2
              have hI0 : (0 : Int) ≤ (j : Int) + 1 + 1 := by omega
              obtain ⟨qn, hqn⟩ : ∃ q, (sn.toList == s.toList) = q := ⟨_, rfl⟩
              have heqn : eqb sn s = qn := hqn
              rcases fot qn with rfl | rfl
              · have H2 : Hid (stS l s 68719476735 = z) := Lib.hid (by have := HOK.out.end_last HL.out (i := (j + 1)) (by omega) (.inr ⟨hnx, by rw [hvn, HV.out]; exact heqn⟩); rw [HV.out] at this; exact this)
                clear heqn hvn
                go_wp2_with fail
                go_quiet (fail)
                have hb := below_drewN (Below.refl w5.heap.size w5) nq
                generalize w5.drewN nq = w6 at hb ⊢
                replace HB := Lib.hid (upB HB.out hb)
                replace HR := Lib.hid (HR.out.up hb)
                replace HX := Lib.hid (HX.out.next hb)
                replace HT := Lib.hid (HT.out.next hb)
                clear hb
                clear x0 x1 x2 hlx
                obtain ⟨x0, x1, x2⟩ := HX.out.cells3
                have hlx := HX.out.lt
                clear n0 n1 n2 hb2
                as_aux_lemma =>
                  go_wp2_with fail
                  have hb := (Below.refl w6.heap.size w6).drew
                  replace HB := Lib.hid (upB HB.out hb)
                  replace HR := Lib.hid (HR.out.up hb)
                  replace HX := Lib.hid (HX.out.next hb)
                  replace HT := Lib.hid (HT.out.next hb)
                  clear hb
                  clear x0 x1 x2 hlx
                  obtain ⟨x0, x1, x2⟩ := HX.out.cells3
                  have hlx := HX.out.lt
                  first | (go_region_held3 (fun w' => Hid (Below w.heap.size w w') ∧ gx < w'.heap.size ∧ w'.cell? ⟨gx, 0, none⟩ = some (.string s) ∧ w'.cell? ⟨gx, 1, none⟩ = some (.int .i64 f) ∧ w'.cell? ⟨gx, 2, none⟩ = some (.int .i64 z)) (first | exact ⟨HB, HX.out.lt, HX.out.cells3.1, HX.out.cells3.2.1, HX.out.cells3.2.2⟩ | assumption)
                    (first
                      | (go_at_call 22; refine (state22' _ (some ⟨b, off, none⟩) n c l s f _ (by rfl) HR.out).mono ?_; rintro e w9 ⟨rfl, hb⟩; rw [H1.out]; replace HB := Lib.hid (upB HB.out hb); replace HR := Lib.hid (HR.out.up hb); replace HX := Lib.hid (HX.out.next hb); replace HT := Lib.hid (HT.out.next hb); clear hb)
                      | (go_at_call 22; refine (state22' _ (some ⟨b, off, none⟩) n c l s 68719476735 _ (by rfl) HR.out).mono ?_; rintro e w9 ⟨rfl, hb⟩; rw [H2.out]; replace HB := Lib.hid (upB HB.out hb); replace HR := Lib.hid (HR.out.up hb); replace HX := Lib.hid (HX.out.next hb); replace HT := Lib.hid (HT.out.next hb); clear hb)
                      | (go_at_call 22; refine (state22' _ (some ⟨b, off, none⟩) n c l s (f - 1) _ (by rfl) HR.out).mono ?_; rintro e w9 ⟨rfl, hb⟩; rw [H3.out]; replace HB := Lib.hid (upB HB.out hb); replace HR := Lib.hid (HR.out.up hb); replace HX := Lib.hid (HX.out.next hb); replace HT := Lib.hid (HT.out.next hb); clear hb)
                      | (go_at_call 17; refine (alive17 _ HT.out).mono ?_; rintro e w9 ⟨rfl, hb⟩; replace HB := Lib.hid (upB HB.out hb); replace HX := Lib.hid (HX.out.next hb); clear hb))) | fail
                  all_goals go_wp2_with fail
                  all_goals go_ret
                  all_goals exact ⟨rfl, HB.out⟩
              · have H2 : Hid (stS l s (fn - 1) = z) := Lib.hid (by have := HOK.out.end_next HL.out (i := (j + 1)) hnx (by rw [hvn, HV.out]; exact heqn); rw [HV.out, hvn] at this; exact this)
                have hfn := (HOK.out.time ((j + 1) + 1) hnx)
                rw [hvn] at hfn
                simp only at hfn
                have E7 : IntKind.i64.wrap (fn - 1) = fn - 1 := IntWalk.i64_in _ (by omega)
                clear heqn
                go_wp2_with fail
                go_quiet (fail)
                have hb := below_drewN (Below.refl w5.heap.size w5) nq
                generalize w5.drewN nq = w6 at hb ⊢
                replace HB := Lib.hid (upB HB.out hb)
                replace HR := Lib.hid (HR.out.up hb)
                replace HX := Lib.hid (HX.out.next hb)
                replace HT := Lib.hid (HT.out.next hb)
                clear hb
                clear x0 x1 x2 hlx
                obtain ⟨x0, x1, x2⟩ := HX.out.cells3
                have hlx := HX.out.lt
                clear n0 n1 n2 hb2
                obtain ⟨hb2, n0, n1, n2⟩ := HCN.out w6 HB.out
                rw [hvn] at n0 n1 n2
                simp only at n0 n1 n2
                clear hvn hfn
                as_aux_lemma =>
                  go_wp2_with fail
                  have hb := (Below.refl w6.heap.size w6).drew
                  replace HB := Lib.hid (upB HB.out hb)
                  replace HR := Lib.hid (HR.out.up hb)
                  replace HX := Lib.hid (HX.out.next hb)
                  replace HT := Lib.hid (HT.out.next hb)
                  clear hb
                  clear x0 x1 x2 hlx
                  obtain ⟨x0, x1, x2⟩ := HX.out.cells3
                  have hlx := HX.out.lt
                  first | (go_region_held3 (fun w' => Hid (Below w.heap.size w w') ∧ gx < w'.heap.size ∧ w'.cell? ⟨gx, 0, none⟩ = some (.string s) ∧ w'.cell? ⟨gx, 1, none⟩ = some (.int .i64 f) ∧ w'.cell? ⟨gx, 2, none⟩ = some (.int .i64 z)) (first | exact ⟨HB, HX.out.lt, HX.out.cells3.1, HX.out.cells3.2.1, HX.out.cells3.2.2⟩ | assumption)
                    (first
                      | (go_at_call 22; refine (state22' _ (some ⟨b, off, none⟩) n c l s f _ (by rfl) HR.out).mono ?_; rintro e w9 ⟨rfl, hb⟩; rw [H1.out]; replace HB := Lib.hid (upB HB.out hb); replace HR := Lib.hid (HR.out.up hb); replace HX := Lib.hid (HX.out.next hb); replace HT := Lib.hid (HT.out.next hb); clear hb)
                      | (go_at_call 22; refine (state22' _ (some ⟨b, off, none⟩) n c l s (fn - 1) _ (by rfl) HR.out).mono ?_; rintro e w9 ⟨rfl, hb⟩; rw [H2.out]; replace HB := Lib.hid (upB HB.out hb); replace HR := Lib.hid (HR.out.up hb); replace HX := Lib.hid (HX.out.next hb); replace HT := Lib.hid (HT.out.next hb); clear hb)
                      | (go_at_call 22; refine (state22' _ (some ⟨b, off, none⟩) n c l s (f - 1) _ (by rfl) HR.out).mono ?_; rintro e w9 ⟨rfl, hb⟩; rw [H3.out]; replace HB := Lib.hid (upB HB.out hb); replace HR := Lib.hid (HR.out.up hb); replace HX := Lib.hid (HX.out.next hb); replace HT := Lib.hid (HT.out.next hb); clear hb)
                      | (go_at_call 17; refine (alive17 _ HT.out).mono ?_; rintro e w9 ⟨rfl, hb⟩; replace HB := Lib.hid (upB HB.out hb); replace HX := Lib.hid (HX.out.next hb); clear hb))) | fail
                  all_goals go_wp2_with fail
                  all_goals go_ret
                  all_goals exact ⟨rfl, HB.out⟩
            · have E5 : decide ((j : Int) + 1 + 1 < (n : Int)) = false := decide_eq_false (by omega)
              have E6 : IntKind.i64.wrap ((j : Int) + 1 + 1) = (j : Int) + 1 + 1 := IntWalk.i64_in _ (by omega)
              have H2 : Hid (stS l s 68719476735 = z) := Lib.hid (by have := HOK.out.end_last HL.out (i := (j + 1)) (by omega) (.inl (by omega)); rw [HV.out] at this; exact this)
              go_wp2_with fail
              go_quiet (fail)
              have hb := below_drewN (Below.refl w5.heap.size w5) nq
              generalize w5.drewN nq = w6 at hb ⊢
              replace HB := Lib.hid (upB HB.out hb)
              replace HR := Lib.hid (HR.out.up hb)
              replace HX := Lib.hid (HX.out.next hb)
              replace HT := Lib.hid (HT.out.next hb)
              clear hb
              clear x0 x1 x2 hlx
              obtain ⟨x0, x1, x2⟩ := HX.out.cells3
              have hlx := HX.out.lt
              as_aux_lemma =>
                go_wp2_with fail
                have hb := (Below.refl w6.heap.size w6).drew
                replace HB := Lib.hid (upB HB.out hb)
                replace HR := Lib.hid (HR.out.up hb)
                replace HX := Lib.hid (HX.out.next hb)
                replace HT := Lib.hid (HT.out.next hb)
                clear hb
                clear x0 x1 x2 hlx
                obtain ⟨x0, x1, x2⟩ := HX.out.cells3
                have hlx := HX.out.lt
                first | (go_region_held3 (fun w' => Hid (Below w.heap.size w w') ∧ gx < w'.heap.size ∧ w'.cell? ⟨gx, 0, none⟩ = some (.string s) ∧ w'.cell? ⟨gx, 1, none⟩ = some (.int .i64 f) ∧ w'.cell? ⟨gx, 2, none⟩ = some (.int .i64 z)) (first | exact ⟨HB, HX.out.lt, HX.out.cells3.1, HX.out.cells3.2.1, HX.out.cells3.2.2⟩ | assumption)
                  (first
                    | (go_at_call 22; refine (state22' _ (some ⟨b, off, none⟩) n c l s f _ (by rfl) HR.out).mono ?_; rintro e w9 ⟨rfl, hb⟩; rw [H1.out]; replace HB := Lib.hid (upB HB.out hb); replace HR := Lib.hid (HR.out.up hb); replace HX := Lib.hid (HX.out.next hb); replace HT := Lib.hid (HT.out.next hb); clear hb)
                    | (go_at_call 22; refine (state22' _ (some ⟨b, off, none⟩) n c l s 68719476735 _ (by rfl) HR.out).mono ?_; rintro e w9 ⟨rfl, hb⟩; rw [H2.out]; replace HB := Lib.hid (upB HB.out hb); replace HR := Lib.hid (HR.out.up hb); replace HX := Lib.hid (HX.out.next hb); replace HT := Lib.hid (HT.out.next hb); clear hb)
                    | (go_at_call 22; refine (state22' _ (some ⟨b, off, none⟩) n c l s (f - 1) _ (by rfl) HR.out).mono ?_; rintro e w9 ⟨rfl, hb⟩; rw [H3.out]; replace HB := Lib.hid (upB HB.out hb); replace HR := Lib.hid (HR.out.up hb); replace HX := Lib.hid (HX.out.next hb); replace HT := Lib.hid (HT.out.next hb); clear hb)
                    | (go_at_call 17; refine (alive17 _ HT.out).mono ?_; rintro e w9 ⟨rfl, hb⟩; replace HB := Lib.hid (upB HB.out hb); replace HX := Lib.hid (HX.out.next hb); clear hb))) | fail
                all_goals go_wp2_with fail
                all_goals go_ret
                all_goals exact ⟨rfl, HB.out⟩
          · have H3 : Hid (stS l s (f - 1) = zp) := Lib.hid (by have := HOK.out.before_same HL.out (i := j) hin (by rw [hvp, HV.out]; exact heqp); rw [HV.out, hvp] at this; exact this)
            clear heqp
            go_wp2_with fail
            generalize w4.alloc (.cells #[.string s, .int .i64 f, .int .i64 z] 45) = w4b at HX HB HR HT x0 x1 x2 hlx p0 p1 p2 hb3 d0 d1 d2 ⊢
            go_quiet (fail)
            have hb := below_drewN (Below.refl w4b.heap.size w4b) nq
            generalize w4b.drewN nq = w5 at hb ⊢
            replace HB := Lib.hid (upB HB.out hb)
            replace HR := Lib.hid (HR.out.up hb)
            replace HX := Lib.hid (HX.out.next hb)
            replace HT := Lib.hid (HT.out.next hb)
            clear hb
            clear x0 x1 x2 hlx
            obtain ⟨x0, x1, x2⟩ := HX.out.cells3
            have hlx := HX.out.lt
            clear d0 d1 d2 hb2
            
            clear p0 p1 p2 hb3
            obtain ⟨hb3, p0, p1, p2⟩ := HCP.out _ HB.out
            rw [hvp] at p0 p1 p2
            simp only at p0 p1 p2
            clear hvp
            by_cases hnx : (j + 1) + 1 < n
            · have E5 : (j : Int) + 1 + 1 < (n : Int) := by omega
              have E6 : IntKind.i64.wrap ((j : Int) + 1 + 1) = (j : Int) + 1 + 1 := IntWalk.i64_in _ (by omega)
              have HCN := Lib.hid (HCE.out ((j + 1) + 1) hnx)
              obtain ⟨⟨sn, fn, zn⟩, hvn⟩ : ∃ v, tat l ((j + 1) + 1) = v := ⟨_, rfl⟩
              obtain ⟨hb2, n0, n1, n2⟩ := HCN.out w5 HB.out
              rw [hvn] at n0 n1 n2
              simp only at n0 n1 n2
              have hI0 : (0 : Int) ≤ (j : Int) + 1 + 1 := by omega
              obtain ⟨qn, hqn⟩ : ∃ q, (sn.toList == s.toList) = q := ⟨_, rfl⟩
              have heqn : eqb sn s = qn := hqn
              rcases fot qn with rfl | rfl
              · have H2 : Hid (stS l s 68719476735 = z) := Lib.hid (by have := HOK.out.end_last HL.out (i := (j + 1)) (by omega) (.inr ⟨hnx, by rw [hvn, HV.out]; exact heqn⟩); rw [HV.out] at this; exact this)
                clear heqn hvn
                go_wp2_with fail
                go_quiet (fail)
                have hb := below_drewN (Below.refl w5.heap.size w5) nq
                generalize w5.drewN nq = w6 at hb ⊢
                replace HB := Lib.hid (upB HB.out hb)
                replace HR := Lib.hid (HR.out.up hb)
                replace HX := Lib.hid (HX.out.next hb)
                replace HT := Lib.hid (HT.out.next hb)
                clear hb
                clear x0 x1 x2 hlx
                obtain ⟨x0, x1, x2⟩ := HX.out.cells3
                have hlx := HX.out.lt
                clear n0 n1 n2 hb2
                as_aux_lemma =>
                  go_wp2_with fail
                  have hb := (Below.refl w6.heap.size w6).drew
                  replace HB := Lib.hid (upB HB.out hb)
                  replace HR := Lib.hid (HR.out.up hb)
                  replace HX := Lib.hid (HX.out.next hb)
                  replace HT := Lib.hid (HT.out.next hb)
                  clear hb
                  clear x0 x1 x2 hlx
                  obtain ⟨x0, x1, x2⟩ := HX.out.cells3
                  have hlx := HX.out.lt
                  first | (go_region_held3 (fun w' => Hid (Below w.heap.size w w') ∧ gx < w'.heap.size ∧ w'.cell? ⟨gx, 0, none⟩ = some (.string s) ∧ w'.cell? ⟨gx, 1, none⟩ = some (.int .i64 f) ∧ w'.cell? ⟨gx, 2, none⟩ = some (.int .i64 z)) (first | exact ⟨HB, HX.out.lt, HX.out.cells3.1, HX.out.cells3.2.1, HX.out.cells3.2.2⟩ | assumption)
                    (first
                      | (go_at_call 22; refine (state22' _ (some ⟨b, off, none⟩) n c l s f _ (by rfl) HR.out).mono ?_; rintro e w9 ⟨rfl, hb⟩; rw [H1.out]; replace HB := Lib.hid (upB HB.out hb); replace HR := Lib.hid (HR.out.up hb); replace HX := Lib.hid (HX.out.next hb); replace HT := Lib.hid (HT.out.next hb); clear hb)
                      | (go_at_call 22; refine (state22' _ (some ⟨b, off, none⟩) n c l s 68719476735 _ (by rfl) HR.out).mono ?_; rintro e w9 ⟨rfl, hb⟩; rw [H2.out]; replace HB := Lib.hid (upB HB.out hb); replace HR := Lib.hid (HR.out.up hb); replace HX := Lib.hid (HX.out.next hb); replace HT := Lib.hid (HT.out.next hb); clear hb)
                      | (go_at_call 22; refine (state22' _ (some ⟨b, off, none⟩) n c l s (f - 1) _ (by rfl) HR.out).mono ?_; rintro e w9 ⟨rfl, hb⟩; rw [H3.out]; replace HB := Lib.hid (upB HB.out hb); replace HR := Lib.hid (HR.out.up hb); replace HX := Lib.hid (HX.out.next hb); replace HT := Lib.hid (HT.out.next hb); clear hb)
                      | (go_at_call 17; refine (alive17 _ HT.out).mono ?_; rintro e w9 ⟨rfl, hb⟩; replace HB := Lib.hid (upB HB.out hb); replace HX := Lib.hid (HX.out.next hb); clear hb))) | fail
                  all_goals go_wp2_with fail
                  all_goals go_ret
                  all_goals exact ⟨rfl, HB.out⟩
              · have H2 : Hid (stS l s (fn - 1) = z) := Lib.hid (by have := HOK.out.end_next HL.out (i := (j + 1)) hnx (by rw [hvn, HV.out]; exact heqn); rw [HV.out, hvn] at this; exact this)
                have hfn := (HOK.out.time ((j + 1) + 1) hnx)
                rw [hvn] at hfn
                simp only at hfn
                have E7 : IntKind.i64.wrap (fn - 1) = fn - 1 := IntWalk.i64_in _ (by omega)
                clear heqn
                go_wp2_with fail
                go_quiet (fail)
                have hb := below_drewN (Below.refl w5.heap.size w5) nq
                generalize w5.drewN nq = w6 at hb ⊢
                replace HB := Lib.hid (upB HB.out hb)
                replace HR := Lib.hid (HR.out.up hb)
                replace HX := Lib.hid (HX.out.next hb)
                replace HT := Lib.hid (HT.out.next hb)
                clear hb
                clear x0 x1 x2 hlx
                obtain ⟨x0, x1, x2⟩ := HX.out.cells3
                have hlx := HX.out.lt
                clear n0 n1 n2 hb2
                obtain ⟨hb2, n0, n1, n2⟩ := HCN.out w6 HB.out
                rw [hvn] at n0 n1 n2
                simp only at n0 n1 n2
                clear hvn hfn
                as_aux_lemma =>
                  go_wp2_with fail
                  have hb := (Below.refl w6.heap.size w6).drew
                  replace HB := Lib.hid (upB HB.out hb)
                  replace HR := Lib.hid (HR.out.up hb)
                  replace HX := Lib.hid (HX.out.next hb)
                  replace HT := Lib.hid (HT.out.next hb)
                  clear hb
                  clear x0 x1 x2 hlx
                  obtain ⟨x0, x1, x2⟩ := HX.out.cells3
                  have hlx := HX.out.lt
                  first | (go_region_held3 (fun w' => Hid (Below w.heap.size w w') ∧ gx < w'.heap.size ∧ w'.cell? ⟨gx, 0, none⟩ = some (.string s) ∧ w'.cell? ⟨gx, 1, none⟩ = some (.int .i64 f) ∧ w'.cell? ⟨gx, 2, none⟩ = some (.int .i64 z)) (first | exact ⟨HB, HX.out.lt, HX.out.cells3.1, HX.out.cells3.2.1, HX.out.cells3.2.2⟩ | assumption)
                    (first
                      | (go_at_call 22; refine (state22' _ (some ⟨b, off, none⟩) n c l s f _ (by rfl) HR.out).mono ?_; rintro e w9 ⟨rfl, hb⟩; rw [H1.out]; replace HB := Lib.hid (upB HB.out hb); replace HR := Lib.hid (HR.out.up hb); replace HX := Lib.hid (HX.out.next hb); replace HT := Lib.hid (HT.out.next hb); clear hb)
                      | (go_at_call 22; refine (state22' _ (some ⟨b, off, none⟩) n c l s (fn - 1) _ (by rfl) HR.out).mono ?_; rintro e w9 ⟨rfl, hb⟩; rw [H2.out]; replace HB := Lib.hid (upB HB.out hb); replace HR := Lib.hid (HR.out.up hb); replace HX := Lib.hid (HX.out.next hb); replace HT := Lib.hid (HT.out.next hb); clear hb)
                      | (go_at_call 22; refine (state22' _ (some ⟨b, off, none⟩) n c l s (f - 1) _ (by rfl) HR.out).mono ?_; rintro e w9 ⟨rfl, hb⟩; rw [H3.out]; replace HB := Lib.hid (upB HB.out hb); replace HR := Lib.hid (HR.out.up hb); replace HX := Lib.hid (HX.out.next hb); replace HT := Lib.hid (HT.out.next hb); clear hb)
                      | (go_at_call 17; refine (alive17 _ HT.out).mono ?_; rintro e w9 ⟨rfl, hb⟩; replace HB := Lib.hid (upB HB.out hb); replace HX := Lib.hid (HX.out.next hb); clear hb))) | fail
                  all_goals go_wp2_with fail
                  all_goals go_ret
                  all_goals exact ⟨rfl, HB.out⟩
            · have E5 : decide ((j : Int) + 1 + 1 < (n : Int)) = false := decide_eq_false (by omega)
              have E6 : IntKind.i64.wrap ((j : Int) + 1 + 1) = (j : Int) + 1 + 1 := IntWalk.i64_in _ (by omega)
              have H2 : Hid (stS l s 68719476735 = z) := Lib.hid (by have := HOK.out.end_last HL.out (i := (j + 1)) (by omega) (.inl (by omega)); rw [HV.out] at this; exact this)
              go_wp2_with fail
              go_quiet (fail)
              have hb := below_drewN (Below.refl w5.heap.size w5) nq
              generalize w5.drewN nq = w6 at hb ⊢
              replace HB := Lib.hid (upB HB.out hb)
              replace HR := Lib.hid (HR.out.up hb)
              replace HX := Lib.hid (HX.out.next hb)
              replace HT := Lib.hid (HT.out.next hb)
              clear hb
              clear x0 x1 x2 hlx
              obtain ⟨x0, x1, x2⟩ := HX.out.cells3
              have hlx := HX.out.lt
              as_aux_lemma =>
                go_wp2_with fail
                have hb := (Below.refl w6.heap.size w6).drew
                replace HB := Lib.hid (upB HB.out hb)
                replace HR := Lib.hid (HR.out.up hb)
                replace HX := Lib.hid (HX.out.next hb)
                replace HT := Lib.hid (HT.out.next hb)
                clear hb
                clear x0 x1 x2 hlx
                obtain ⟨x0, x1, x2⟩ := HX.out.cells3
                have hlx := HX.out.lt
                first | (go_region_held3 (fun w' => Hid (Below w.heap.size w w') ∧ gx < w'.heap.size ∧ w'.cell? ⟨gx, 0, none⟩ = some (.string s) ∧ w'.cell? ⟨gx, 1, none⟩ = some (.int .i64 f) ∧ w'.cell? ⟨gx, 2, none⟩ = some (.int .i64 z)) (first | exact ⟨HB, HX.out.lt, HX.out.cells3.1, HX.out.cells3.2.1, HX.out.cells3.2.2⟩ | assumption)
                  (first
                    | (go_at_call 22; refine (state22' _ (some ⟨b, off, none⟩) n c l s f _ (by rfl) HR.out).mono ?_; rintro e w9 ⟨rfl, hb⟩; rw [H1.out]; replace HB := Lib.hid (upB HB.out hb); replace HR := Lib.hid (HR.out.up hb); replace HX := Lib.hid (HX.out.next hb); replace HT := Lib.hid (HT.out.next hb); clear hb)
                    | (go_at_call 22; refine (state22' _ (some ⟨b, off, none⟩) n c l s 68719476735 _ (by rfl) HR.out).mono ?_; rintro e w9 ⟨rfl, hb⟩; rw [H2.out]; replace HB := Lib.hid (upB HB.out hb); replace HR := Lib.hid (HR.out.up hb); replace HX := Lib.hid (HX.out.next hb); replace HT := Lib.hid (HT.out.next hb); clear hb)
                    | (go_at_call 22; refine (state22' _ (some ⟨b, off, none⟩) n c l s (f - 1) _ (by rfl) HR.out).mono ?_; rintro e w9 ⟨rfl, hb⟩; rw [H3.out]; replace HB := Lib.hid (upB HB.out hb); replace HR := Lib.hid (HR.out.up hb); replace HX := Lib.hid (HX.out.next hb); replace HT := Lib.hid (HT.out.next hb); clear hb)
                    | (go_at_call 17; refine (alive17 _ HT.out).mono ?_; rintro e w9 ⟨rfl, hb⟩; replace HB := Lib.hid (upB HB.out hb); replace HX := Lib.hid (HX.out.next hb); clear hb))) | fail
                all_goals go_wp2_with fail
                all_goals go_ret
                all_goals exact ⟨rfl, HB.out⟩
      · have E2 : (cv != 0) = true := by simp [hc0]
        clear hc0
        go_enter Tryd.func10, Tryd.ntmps10
        go_wp2_with fail
        refine (checkAll20 A n c l _ HR.out).mono ?_
        rintro e w4 ⟨rfl, hb⟩
        rw [HCV.out]
        replace HB := Lib.hid (upB HB.out hb)
        clear hb
        go_wp2_with fail
        go_ret
        exact ⟨rfl, HB.out⟩
end Go.Proofs.YtgghnamjjgmimaaDoor.Wk
