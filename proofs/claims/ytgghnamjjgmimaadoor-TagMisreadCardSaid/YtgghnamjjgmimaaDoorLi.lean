/- The first error of a list of states, and the state of a transponder at a time, in the layer and in its reference. Conditions: the slices read as lists of states. -/
import Derived.Test.YtgghnamjjgmimaaDoorCp
set_option linter.unusedSimpArgs false
set_option linter.unusedVariables false
namespace Go.Proofs.YtgghnamjjgmimaaDoor.Mt
open Go
def tat (l : List Ts) (i : Nat) : Ts := l.getD i (⟨#[]⟩, 0, 0)
/-- the error of the state at place i -/
def er (l : List Ts) (i : Nat) : Int := if ck (tat l i).1 ≠ 0 then 18 else if (tat l i).2.1 < 0 ∨ 68719476736 ≤ (tat l i).2.1 then 12 else if (tat l i).2.2 < 1 ∨ 3 < (tat l i).2.2 then 1 else if 0 < i ∧ bf (tat l (i - 1)) (tat l i) = false then 15 else 0
def feS (l : List Ts) : Nat → Int
  | 0 => 0
  | k + 1 => if feS l k ≠ 0 then feS l k else er l k
theorem fe_yes {l : List Ts} {k : Nat} (h0 : feS l k = 0) (h : er l k ≠ 0) : ∀ d, feS l (k + 1 + d) = er l k := by
  intro d
  induction d with
  | zero =>
    show (if feS l k ≠ 0 then feS l k else er l k) = er l k
    rw [if_neg (fun h => h h0)]
  | succ d ih =>
    show (if feS l (k + 1 + d) ≠ 0 then feS l (k + 1 + d) else er l (k + 1 + d)) = er l k
    rw [ih, if_pos h]
theorem fe_no {l : List Ts} {k : Nat} (h0 : feS l k = 0) (h : er l k = 0) : feS l (k + 1) = 0 := by
  show (if feS l k ≠ 0 then feS l k else er l k) = 0
  rw [if_neg (fun h => h h0), h]
def caS (l : List Ts) : Int := if 1024 < l.length then 3 else feS l l.length
theorem fe_all {l : List Ts} : ∀ {k : Nat}, feS l k = 0 ↔ ∀ i, i < k → er l i = 0 := by
  intro k
  induction k with
  | zero => exact ⟨fun _ i h => by omega, fun _ => rfl⟩
  | succ k ih =>
    constructor
    · intro h
      have h2 : (if feS l k ≠ 0 then feS l k else er l k) = 0 := h
      by_cases h0 : feS l k = 0
      · rw [if_neg (fun h => h h0)] at h2
        intro i hi
        rcases Nat.lt_or_ge i k with h3 | h3
        · exact ih.1 h0 i h3
        · obtain rfl : i = k := by omega
          exact h2
      · rw [if_pos h0] at h2
        exact absurd h2 h0
    · intro h
      exact fe_no (ih.2 (fun i hi => h i (by omega))) (h k (by omega))
/-- the state behind k rounds -/
def stk (l : List Ts) (s : ByteArray) (t : Int) : Nat → Int
  | 0 => 1
  | k + 1 => if eqb (tat l k).1 s && decide ((tat l k).2.1 ≤ t) then (tat l k).2.2 else stk l s t k
def stS (l : List Ts) (s : ByteArray) (t : Int) : Int := if ck s = 0 then stk l s t l.length else 0
theorem stk_yes {l : List Ts} {s : ByteArray} {t : Int} {k : Nat} (h1 : eqb (tat l k).1 s = true) (h2 : (tat l k).2.1 ≤ t) : stk l s t (k + 1) = (tat l k).2.2 := by
  show (if eqb (tat l k).1 s && decide ((tat l k).2.1 ≤ t) then _ else _) = _
  rw [h1, decide_eq_true h2]; rfl
theorem stk_no {l : List Ts} {s : ByteArray} {t : Int} {k : Nat} (h : ¬ (eqb (tat l k).1 s = true ∧ (tat l k).2.1 ≤ t)) : stk l s t (k + 1) = stk l s t k := by
  show (if eqb (tat l k).1 s && decide ((tat l k).2.1 ≤ t) then _ else _) = _
  rw [if_neg]
  simpa using h
end Go.Proofs.YtgghnamjjgmimaaDoor.Mt
namespace Go.Proofs.YtgghnamjjgmimaaDoor.Wk
open Go.RowKit
open Go.Proofs.YtgghnamjjgmimaaDoor.Mt
def In64 (a : Int) : Prop := -9223372036854775808 ≤ a ∧ a ≤ 9223372036854775807
/-- a slice value of n states reads as the list l -/
def Rt (w : World) (B : Nat) (A : Option Addr) (n : Nat) (l : List Ts) : Prop :=
  l.length = n ∧ n ≤ 9223372036854775807 ∧ (0 < n → ∃ b off, A = some ⟨b, off, none⟩ ∧ b < B ∧ ∀ i, i < n → w.cell? ⟨b, off + i * 3, none⟩ = some (.string (tat l i).1) ∧ w.cell? ⟨b, off + i * 3 + 1, none⟩ = some (.int .i64 (tat l i).2.1) ∧ w.cell? ⟨b, off + i * 3 + 2, none⟩ = some (.int .i64 (tat l i).2.2)) ∧ ∀ i, In64 (tat l i).2.1 ∧ In64 (tat l i).2.2
theorem Rt.up {w w' : World} {A : Option Addr} {n : Nat} {l : List Ts} (h : Rt w w.heap.size A n l) (hb : Below w.heap.size w w') : Rt w' w'.heap.size A n l := by
  refine ⟨h.1, h.2.1, fun hn => ?_, h.2.2.2⟩
  obtain ⟨b, off, e, hlt, hc⟩ := h.2.2.1 hn
  refine ⟨b, off, e, Nat.lt_of_lt_of_le hlt hb.size, fun i hi => ?_⟩
  obtain ⟨h1, h2, h3⟩ := hc i hi
  exact ⟨(hb.cell (p := ⟨b, _, none⟩) hlt).trans h1, (hb.cell (p := ⟨b, _, none⟩) hlt).trans h2, (hb.cell (p := ⟨b, _, none⟩) hlt).trans h3⟩
set_option maxHeartbeats 4000000 in
set_option maxRecDepth 100000 in
theorem checkAll20 (A : Option Addr) (n c : Nat) (l : List Ts) (w : World) (h : Rt w w.heap.size A n l) : Calls Tryd.prog 20 #[.slice A n c] w fun e w' => e = .returned (.int .i64 (caS l)) ∧ Below w.heap.size w w' := by
  have HR := Lib.hid h
  have HL := Lib.hid h.1
  have hn := h.2.1
  clear h
  by_cases hbig : 1024 < n
  · have hbI : (1024 : Int) < (n : Int) := by omega
    have HE : Hid (caS l = 3) := Lib.hid (if_pos (by rw [HL.out]; exact hbig))
    go_enter Tryd.func20, Tryd.ntmps20
    go_wp2_with fail
    go_ret
    exact ⟨by rw [HE.out]; rfl, Below.refl _ _⟩
  · have hbI : decide ((1024 : Int) < (n : Int)) = false := decide_eq_false (by omega)
    have HCA : Hid (caS l = feS l n) := Lib.hid (by unfold caS; rw [HL.out, if_neg hbig])
    go_enter Tryd.func20, Tryd.ntmps20
    go_wp2_with fail
    clear hbI
    go_loopw [10] (fun iv wr => ∃ k : Nat, k ≤ n ∧ iv = .int .i64 k ∧ Hid (feS l k = 0) ∧ Hid (Below w.heap.size w wr)) (fun iv _ => n - (intOf iv).toNat)
    case atStart => exact ⟨0, Nat.zero_le _, rfl, Lib.hid rfl, Lib.hid (Below.refl _ _)⟩
    case round =>
      obtain ⟨k, hk, rfl, HF, HB⟩ := hrel
      by_cases hlt : k < n
      · have hltI : (k : Int) < (n : Int) := by omega
        obtain ⟨b, off, rfl, hbb, hcell⟩ := (HR.out.up HB.out).2.2.1 (by omega)
        have HCE : Hid (∀ i, i < n → ∀ W, Below w.heap.size w W → b < W.heap.size ∧ W.cell? ⟨b, off + i * 3, none⟩ = some (.string (tat l i).1) ∧ W.cell? ⟨b, off + i * 3 + 1, none⟩ = some (.int .i64 (tat l i).2.1) ∧ W.cell? ⟨b, off + i * 3 + 2, none⟩ = some (.int .i64 (tat l i).2.2)) := Lib.hid (fun i hi W hW => by
          obtain ⟨b', o', e, hlt', hc⟩ := (HR.out.up hW).2.2.1 (by omega)
          injection e with e
          injection e with e1 e2
          subst e1 e2
          exact ⟨hlt', hc i hi⟩)
        obtain ⟨hb2, d0, d1, d2⟩ := HCE.out k hlt wr HB.out
        have HER : Hid (er l k ≠ 0 → caS l = er l k) := Lib.hid (fun h => by
          rw [HCA.out]
          have := fe_yes HF.out h (n - (k + 1))
          rwa [show k + 1 + (n - (k + 1)) = n by omega] at this)
        have HNX : Hid (er l k = 0 → feS l (k + 1) = 0) := Lib.hid (fe_no HF.out)
        obtain ⟨⟨x, f, z⟩, hxy⟩ : ∃ v, tat l k = v := ⟨_, rfl⟩
        have HV := Lib.hid hxy
        have HED : Hid (er l k = if ck x ≠ 0 then 18 else if f < 0 ∨ 68719476736 ≤ f then 12 else if z < 1 ∨ 3 < z then 1 else if 0 < k ∧ bf (tat l (k - 1)) (x, f, z) = false then 15 else 0) := Lib.hid (by unfold er; rw [hxy])
        rw [hxy] at d0 d1 d2
        simp only at d0 d1 d2
        obtain ⟨gx, hgx⟩ : ∃ g, wr.heap.size = g := ⟨_, rfl⟩
        have HX : Hid (Bx (wr.alloc (.cells #[.string x, .int .i64 f, .int .i64 z] 45)) wr.heap.size 45 #[.string x, .int .i64 f, .int .i64 z]) := Lib.hid (Bx.new _ _ _)
        have HB2 := Lib.hid (HB.out.alloc HB.out.size (.cells #[.string x, .int .i64 f, .int .i64 z] 45))
        clear hxy hcell hbb
        go_wp2_with fail
        refine (check15 x _).mono ?_
        rintro e w2 ⟨rfl, hb⟩
        replace HX := Lib.hid (HX.out.next hb)
        replace HB2 := Lib.hid (upB HB2.out hb)
        rw [hgx] at HX
        clear hb hb2 d0 d1 d2 hgx
        obtain ⟨x0, x1, x2⟩ := HX.out.cells3
        have hlx := HX.out.lt
        obtain ⟨cc, hcc⟩ : ∃ cc, ck x = cc := ⟨_, rfl⟩
        rw [hcc] at HED ⊢
        clear hcc
        by_cases h1 : cc = 0
        · have e1 : (cc != 0) = false := by simp [h1]
          by_cases h2 : f < 0 ∨ 68719476736 ≤ f
          · have HE : Hid (caS l = 12) := Lib.hid (by
              have e : er l k = 12 := by rw [HED.out, if_neg (fun h => h h1), if_pos h2]
              rw [HER.out (by rw [e]; decide), e])
            by_cases h2a : f < 0
            · clear h2 h1
              go_wp2_with fail
              go_ret
              exact ⟨by rw [HE.out]; rfl, HB2.out⟩
            · have q1 : decide (f < 0) = false := decide_eq_false h2a
              have q2 : 68719476736 ≤ f := by omega
              clear h2 h1
              go_wp2_with fail
              go_ret
              exact ⟨by rw [HE.out]; rfl, HB2.out⟩
          · have q1 : decide (f < 0) = false := decide_eq_false (by omega)
            have q2 : decide (68719476736 ≤ f) = false := decide_eq_false (by omega)
            by_cases h3 : z < 1 ∨ 3 < z
            · have HE : Hid (caS l = 1) := Lib.hid (by
                have e : er l k = 1 := by rw [HED.out, if_neg (fun h => h h1), if_neg h2, if_pos h3]
                rw [HER.out (by rw [e]; decide), e])
              by_cases h3a : z < 1
              · clear h2 h1 h3
                go_wp2_with fail
                go_ret
                exact ⟨by rw [HE.out]; rfl, HB2.out⟩
              · have q3 : decide (z < 1) = false := decide_eq_false h3a
                have q4 : 3 < z := by omega
                clear h2 h1 h3
                go_wp2_with fail
                go_ret
                exact ⟨by rw [HE.out]; rfl, HB2.out⟩
            · have q3 : decide (z < 1) = false := decide_eq_false (by omega)
              have q4 : decide (3 < z) = false := decide_eq_false (by omega)
              rcases k with _ | j
              · have HN : Hid (feS l (0 + 1) = 0) := Lib.hid (HNX.out (by rw [HED.out, if_neg (fun h => h h1), if_neg h2, if_neg h3, if_neg (by omega)]))
                have q5 : decide ((0 : Int) < ((0 : Nat) : Int)) = false := by decide
                clear h1 h2 h3 HED HER HNX
                go_wp2_with fail
                go_quiet (fail)
                go_wp2_with fail
                go_roundw
                case rel => exact ⟨0 + 1, by omega, by first | rfl | go_num, HN, Lib.hid (below_drewN HB2.out nq)⟩
                case measure => simp [intOf]; omega
              · obtain ⟨hb2, d3, d4, d5⟩ := HCE.out j (by omega) w2 HB2.out
                have HDP := Lib.hid (HCE.out j (by omega))
                obtain ⟨⟨px, pf, pz⟩, hp⟩ : ∃ v, tat l j = v := ⟨_, rfl⟩
                have hjj : j + 1 - 1 = j := by omega
                rw [hjj, hp] at HED
                rw [hp] at d3 d4 d5 HDP
                simp only at d3 d4 d5 HDP
                have q0 : (0 : Int) < (j : Int) + 1 := by omega
                have E1 : IntKind.i64.wrap ((j : Int) + 1 - 1) = (j : Int) := by rw [IntWalk.i64_in _ (by omega)]; omega
                have E2 : IntKind.i64.wrap (j : Int) = (j : Int) := IntWalk.i64_in _ (by omega)
                have hjI : (j : Int) < (n : Int) := by omega
                obtain ⟨bb, hbf⟩ : ∃ bb, bf (px, pf, pz) (x, f, z) = bb := ⟨_, rfl⟩
                rw [hbf] at HED
                clear hp hjj
                rcases fot bb with rfl | rfl
                · have HE : Hid (caS l = 15) := Lib.hid (by
                    have e : er l (j + 1) = 15 := by rw [HED.out, if_neg (fun h => h h1), if_neg h2, if_neg h3, if_pos ⟨by omega, rfl⟩]
                    rw [HER.out (by rw [e]; decide), e])
                  clear h1 h2 h3 HED HER HNX
                  have HBF := Lib.hid hbf
                  obtain ⟨cv, hcv⟩ : ∃ cv, cO (cB px x) (cI pf f) = cv := ⟨_, rfl⟩
                  have HC := Lib.hid hcv
                  have hcb := cmp_bf (px, pf, pz) (x, f, z)
                  simp only at hcb
                  rw [hcv, hbf] at hcb
                  clear hcv
                  have q5 : decide (0 ≤ cv) = true := by rw [hcb]; rfl
                  clear hbf
                  go_wp2_with fail
                  replace HB2 := Lib.hid (upB HB2.out (Below.refl _ _).drew)
                  replace HX := Lib.hid (HX.out.next (Below.refl _ _).drew)
                  clear d3 d4 d5 x0 x1 x2 hlx
                  obtain ⟨hb2, d3, d4, d5⟩ := HDP.out _ HB2.out
                  obtain ⟨x0, x1, x2⟩ := HX.out.cells3
                  have hlx := HX.out.lt
                  first | (go_region_held3 (fun w' => Hid (Below w.heap.size w w') ∧ b < w'.heap.size ∧ gx < w'.heap.size ∧ w'.cell? ⟨b, off + j * 3, none⟩ = some (.string px) ∧ w'.cell? ⟨b, off + j * 3 + 1, none⟩ = some (.int .i64 pf) ∧ w'.cell? ⟨b, off + j * 3 + 2, none⟩ = some (.int .i64 pz) ∧ w'.cell? ⟨gx, 0, none⟩ = some (.string x) ∧ w'.cell? ⟨gx, 1, none⟩ = some (.int .i64 f) ∧ w'.cell? ⟨gx, 2, none⟩ = some (.int .i64 z)) (first | exact ⟨HB2, (HDP.out _ HB2.out).1, HX.out.lt, (HDP.out _ HB2.out).2.1, (HDP.out _ HB2.out).2.2.1, (HDP.out _ HB2.out).2.2.2, HX.out.cells3.1, HX.out.cells3.2.1, HX.out.cells3.2.2⟩ | assumption)
                    (first
                      | (go_at_call 29; refine (compare29 px x pf f pz z _).mono ?_; rintro e w3 ⟨rfl, hb⟩; rw [HC.out]; replace HB2 := Lib.hid (upB HB2.out hb); replace HX := Lib.hid (HX.out.next hb); clear hb))) | fail
                  all_goals go_wp2_with fail
                  all_goals go_ret
                  all_goals exact ⟨by rw [HE.out]; rfl, HB2.out⟩
                · have HN : Hid (feS l (j + 1 + 1) = 0) := Lib.hid (HNX.out (by rw [HED.out, if_neg (fun h => h h1), if_neg h2, if_neg h3, if_neg (by simp)]))
                  clear h1 h2 h3 HED HER HNX
                  have HBF := Lib.hid hbf
                  obtain ⟨cv, hcv⟩ : ∃ cv, cO (cB px x) (cI pf f) = cv := ⟨_, rfl⟩
                  have HC := Lib.hid hcv
                  have hcb := cmp_bf (px, pf, pz) (x, f, z)
                  simp only at hcb
                  rw [hcv, hbf] at hcb
                  clear hcv
                  have q5 : decide (0 ≤ cv) = false := by rw [hcb]; rfl
                  clear hbf
                  go_wp2_with fail
                  replace HB2 := Lib.hid (upB HB2.out (Below.refl _ _).drew)
                  replace HX := Lib.hid (HX.out.next (Below.refl _ _).drew)
                  clear d3 d4 d5 x0 x1 x2 hlx
                  obtain ⟨hb2, d3, d4, d5⟩ := HDP.out _ HB2.out
                  obtain ⟨x0, x1, x2⟩ := HX.out.cells3
                  have hlx := HX.out.lt
                  first | (go_region_held3 (fun w' => Hid (Below w.heap.size w w') ∧ b < w'.heap.size ∧ gx < w'.heap.size ∧ w'.cell? ⟨b, off + j * 3, none⟩ = some (.string px) ∧ w'.cell? ⟨b, off + j * 3 + 1, none⟩ = some (.int .i64 pf) ∧ w'.cell? ⟨b, off + j * 3 + 2, none⟩ = some (.int .i64 pz) ∧ w'.cell? ⟨gx, 0, none⟩ = some (.string x) ∧ w'.cell? ⟨gx, 1, none⟩ = some (.int .i64 f) ∧ w'.cell? ⟨gx, 2, none⟩ = some (.int .i64 z)) (first | exact ⟨HB2, (HDP.out _ HB2.out).1, HX.out.lt, (HDP.out _ HB2.out).2.1, (HDP.out _ HB2.out).2.2.1, (HDP.out _ HB2.out).2.2.2, HX.out.cells3.1, HX.out.cells3.2.1, HX.out.cells3.2.2⟩ | assumption)
                    (first
                      | (go_at_call 29; refine (compare29 px x pf f pz z _).mono ?_; rintro e w3 ⟨rfl, hb⟩; rw [HC.out]; replace HB2 := Lib.hid (upB HB2.out hb); replace HX := Lib.hid (HX.out.next hb); clear hb))) | fail
                  all_goals go_wp2_with fail
                  all_goals go_roundw
                  all_goals first | exact ⟨j + 1 + 1, by omega, by go_num, HN, HB2⟩ | (simp [intOf]; done) | (simp [intOf]; omega)
        · have e1 : (cc != 0) = true := by simp [h1]
          have HE : Hid (caS l = 18) := Lib.hid (by
            have e : er l k = 18 := by rw [HED.out, if_pos h1]
            rw [HER.out (by rw [e]; decide), e])
          clear h1
          go_wp2_with fail
          go_ret
          exact ⟨by rw [HE.out]; rfl, HB2.out⟩
      · have hltI : ¬ (k : Int) < (n : Int) := by omega
        have hkn : k = n := by omega
        have HE : Hid (caS l = 0) := Lib.hid (by rw [HCA.out, ← hkn]; exact HF.out)
        go_wp2_with fail
        go_ret
        exact ⟨by rw [HE.out]; rfl, HB.out⟩
set_option maxHeartbeats 4000000 in
set_option maxRecDepth 100000 in
theorem checkAll21 (A : Option Addr) (n c : Nat) (l : List Ts) (w : World) (h : Rt w w.heap.size A n l) : Calls Tryd.prog 21 #[.slice A n c] w fun e w' => e = .returned (.int .i64 (caS l)) ∧ Below w.heap.size w w' := by
  have HR := Lib.hid h
  have HL := Lib.hid h.1
  have hn := h.2.1
  clear h
  by_cases hbig : 1024 < n
  · have hbI : (1024 : Int) < (n : Int) := by omega
    have HE : Hid (caS l = 3) := Lib.hid (if_pos (by rw [HL.out]; exact hbig))
    go_enter Tryd.func21, Tryd.ntmps21
    go_wp2_with fail
    go_ret
    exact ⟨by rw [HE.out]; rfl, Below.refl _ _⟩
  · have hbI : decide ((1024 : Int) < (n : Int)) = false := decide_eq_false (by omega)
    have HCA : Hid (caS l = feS l n) := Lib.hid (by unfold caS; rw [HL.out, if_neg hbig])
    go_enter Tryd.func21, Tryd.ntmps21
    go_wp2_with fail
    clear hbI
    go_loopw [3] (fun iv wr => ∃ k : Nat, k ≤ n ∧ iv = .int .i64 k ∧ Hid (feS l k = 0) ∧ Hid (Below w.heap.size w wr)) (fun iv _ => n - (intOf iv).toNat)
    case atStart => exact ⟨0, Nat.zero_le _, rfl, Lib.hid rfl, Lib.hid (Below.refl _ _)⟩
    case round =>
      obtain ⟨k, hk, rfl, HF, HB⟩ := hrel
      by_cases hlt : k < n
      · have hltI : (k : Int) < (n : Int) := by omega
        obtain ⟨b, off, rfl, hbb, hcell⟩ := (HR.out.up HB.out).2.2.1 (by omega)
        have HCE : Hid (∀ i, i < n → ∀ W, Below w.heap.size w W → b < W.heap.size ∧ W.cell? ⟨b, off + i * 3, none⟩ = some (.string (tat l i).1) ∧ W.cell? ⟨b, off + i * 3 + 1, none⟩ = some (.int .i64 (tat l i).2.1) ∧ W.cell? ⟨b, off + i * 3 + 2, none⟩ = some (.int .i64 (tat l i).2.2)) := Lib.hid (fun i hi W hW => by
          obtain ⟨b', o', e, hlt', hc⟩ := (HR.out.up hW).2.2.1 (by omega)
          injection e with e
          injection e with e1 e2
          subst e1 e2
          exact ⟨hlt', hc i hi⟩)
        obtain ⟨hb2, d0, d1, d2⟩ := HCE.out k hlt wr HB.out
        have HER : Hid (er l k ≠ 0 → caS l = er l k) := Lib.hid (fun h => by
          rw [HCA.out]
          have := fe_yes HF.out h (n - (k + 1))
          rwa [show k + 1 + (n - (k + 1)) = n by omega] at this)
        have HNX : Hid (er l k = 0 → feS l (k + 1) = 0) := Lib.hid (fe_no HF.out)
        obtain ⟨⟨x, f, z⟩, hxy⟩ : ∃ v, tat l k = v := ⟨_, rfl⟩
        have HV := Lib.hid hxy
        have HED : Hid (er l k = if ck x ≠ 0 then 18 else if f < 0 ∨ 68719476736 ≤ f then 12 else if z < 1 ∨ 3 < z then 1 else if 0 < k ∧ bf (tat l (k - 1)) (x, f, z) = false then 15 else 0) := Lib.hid (by unfold er; rw [hxy])
        rw [hxy] at d0 d1 d2
        simp only at d0 d1 d2
        obtain ⟨gx, hgx⟩ : ∃ g, wr.heap.size = g := ⟨_, rfl⟩
        have HX : Hid (Bx (wr.alloc (.cells #[.string x, .int .i64 f, .int .i64 z] 45)) wr.heap.size 45 #[.string x, .int .i64 f, .int .i64 z]) := Lib.hid (Bx.new _ _ _)
        have HB2 := Lib.hid (HB.out.alloc HB.out.size (.cells #[.string x, .int .i64 f, .int .i64 z] 45))
        clear hxy hcell hbb
        go_wp2_with fail
        refine (check16 x _).mono ?_
        rintro e w2 ⟨rfl, hb⟩
        replace HX := Lib.hid (HX.out.next hb)
        replace HB2 := Lib.hid (upB HB2.out hb)
        rw [hgx] at HX
        clear hb hb2 d0 d1 d2 hgx
        obtain ⟨x0, x1, x2⟩ := HX.out.cells3
        have hlx := HX.out.lt
        obtain ⟨cc, hcc⟩ : ∃ cc, ck x = cc := ⟨_, rfl⟩
        rw [hcc] at HED ⊢
        clear hcc
        by_cases h1 : cc = 0
        · have e1 : (cc != 0) = false := by simp [h1]
          by_cases h2 : f < 0 ∨ 68719476736 ≤ f
          · have HE : Hid (caS l = 12) := Lib.hid (by
              have e : er l k = 12 := by rw [HED.out, if_neg (fun h => h h1), if_pos h2]
              rw [HER.out (by rw [e]; decide), e])
            by_cases h2a : f < 0
            · clear h2 h1
              go_wp2_with fail
              go_ret
              exact ⟨by rw [HE.out]; rfl, HB2.out⟩
            · have q1 : decide (f < 0) = false := decide_eq_false h2a
              have q2 : 68719476736 ≤ f := by omega
              clear h2 h1
              go_wp2_with fail
              go_ret
              exact ⟨by rw [HE.out]; rfl, HB2.out⟩
          · have q1 : decide (f < 0) = false := decide_eq_false (by omega)
            have q2 : decide (68719476736 ≤ f) = false := decide_eq_false (by omega)
            by_cases h3 : z < 1 ∨ 3 < z
            · have HE : Hid (caS l = 1) := Lib.hid (by
                have e : er l k = 1 := by rw [HED.out, if_neg (fun h => h h1), if_neg h2, if_pos h3]
                rw [HER.out (by rw [e]; decide), e])
              by_cases h3a : z < 1
              · clear h2 h1 h3
                go_wp2_with fail
                go_ret
                exact ⟨by rw [HE.out]; rfl, HB2.out⟩
              · have q3 : decide (z < 1) = false := decide_eq_false h3a
                have q4 : 3 < z := by omega
                clear h2 h1 h3
                go_wp2_with fail
                go_ret
                exact ⟨by rw [HE.out]; rfl, HB2.out⟩
            · have q3 : decide (z < 1) = false := decide_eq_false (by omega)
              have q4 : decide (3 < z) = false := decide_eq_false (by omega)
              rcases k with _ | j
              · have HN : Hid (feS l (0 + 1) = 0) := Lib.hid (HNX.out (by rw [HED.out, if_neg (fun h => h h1), if_neg h2, if_neg h3, if_neg (by omega)]))
                have q5 : decide ((0 : Int) < ((0 : Nat) : Int)) = false := by decide
                clear h1 h2 h3 HED HER HNX
                go_wp2_with fail
                go_quiet (fail)
                go_wp2_with fail
                go_roundw
                case rel => exact ⟨0 + 1, by omega, by first | rfl | go_num, HN, Lib.hid (below_drewN HB2.out nq)⟩
                case measure => simp [intOf]; omega
              · obtain ⟨hb2, d3, d4, d5⟩ := HCE.out j (by omega) w2 HB2.out
                have HDP := Lib.hid (HCE.out j (by omega))
                obtain ⟨⟨px, pf, pz⟩, hp⟩ : ∃ v, tat l j = v := ⟨_, rfl⟩
                have hjj : j + 1 - 1 = j := by omega
                rw [hjj, hp] at HED
                rw [hp] at d3 d4 d5 HDP
                simp only at d3 d4 d5 HDP
                have q0 : (0 : Int) < (j : Int) + 1 := by omega
                have E1 : IntKind.i64.wrap ((j : Int) + 1 - 1) = (j : Int) := by rw [IntWalk.i64_in _ (by omega)]; omega
                have E2 : IntKind.i64.wrap (j : Int) = (j : Int) := IntWalk.i64_in _ (by omega)
                have hjI : (j : Int) < (n : Int) := by omega
                obtain ⟨bb, hbf⟩ : ∃ bb, bf (px, pf, pz) (x, f, z) = bb := ⟨_, rfl⟩
                rw [hbf] at HED
                clear hp hjj
                rcases fot bb with rfl | rfl
                · have HE : Hid (caS l = 15) := Lib.hid (by
                    have e : er l (j + 1) = 15 := by rw [HED.out, if_neg (fun h => h h1), if_neg h2, if_neg h3, if_pos ⟨by omega, rfl⟩]
                    rw [HER.out (by rw [e]; decide), e])
                  clear h1 h2 h3 HED HER HNX
                  have HBF := Lib.hid hbf
                  
                  
                  clear hbf
                  go_wp2_with fail
                  replace HB2 := Lib.hid (upB HB2.out (Below.refl _ _).drew)
                  replace HX := Lib.hid (HX.out.next (Below.refl _ _).drew)
                  clear d3 d4 d5 x0 x1 x2 hlx
                  obtain ⟨hb2, d3, d4, d5⟩ := HDP.out _ HB2.out
                  obtain ⟨x0, x1, x2⟩ := HX.out.cells3
                  have hlx := HX.out.lt
                  first | (go_region_held3 (fun w' => Hid (Below w.heap.size w w') ∧ b < w'.heap.size ∧ gx < w'.heap.size ∧ w'.cell? ⟨b, off + j * 3, none⟩ = some (.string px) ∧ w'.cell? ⟨b, off + j * 3 + 1, none⟩ = some (.int .i64 pf) ∧ w'.cell? ⟨b, off + j * 3 + 2, none⟩ = some (.int .i64 pz) ∧ w'.cell? ⟨gx, 0, none⟩ = some (.string x) ∧ w'.cell? ⟨gx, 1, none⟩ = some (.int .i64 f) ∧ w'.cell? ⟨gx, 2, none⟩ = some (.int .i64 z)) (first | exact ⟨HB2, (HDP.out _ HB2.out).1, HX.out.lt, (HDP.out _ HB2.out).2.1, (HDP.out _ HB2.out).2.2.1, (HDP.out _ HB2.out).2.2.2, HX.out.cells3.1, HX.out.cells3.2.1, HX.out.cells3.2.2⟩ | assumption)
                    (first
                      | (go_at_call 30; refine (after30 x px f pf z pz _).mono ?_; rintro e w3 ⟨rfl, hb⟩; rw [HBF.out]; replace HB2 := Lib.hid (upB HB2.out hb); replace HX := Lib.hid (HX.out.next hb); clear hb))) | fail
                  all_goals go_wp2_with fail
                  all_goals go_ret
                  all_goals exact ⟨by rw [HE.out]; rfl, HB2.out⟩
                · have HN : Hid (feS l (j + 1 + 1) = 0) := Lib.hid (HNX.out (by rw [HED.out, if_neg (fun h => h h1), if_neg h2, if_neg h3, if_neg (by simp)]))
                  clear h1 h2 h3 HED HER HNX
                  have HBF := Lib.hid hbf
                  
                  
                  clear hbf
                  go_wp2_with fail
                  replace HB2 := Lib.hid (upB HB2.out (Below.refl _ _).drew)
                  replace HX := Lib.hid (HX.out.next (Below.refl _ _).drew)
                  clear d3 d4 d5 x0 x1 x2 hlx
                  obtain ⟨hb2, d3, d4, d5⟩ := HDP.out _ HB2.out
                  obtain ⟨x0, x1, x2⟩ := HX.out.cells3
                  have hlx := HX.out.lt
                  first | (go_region_held3 (fun w' => Hid (Below w.heap.size w w') ∧ b < w'.heap.size ∧ gx < w'.heap.size ∧ w'.cell? ⟨b, off + j * 3, none⟩ = some (.string px) ∧ w'.cell? ⟨b, off + j * 3 + 1, none⟩ = some (.int .i64 pf) ∧ w'.cell? ⟨b, off + j * 3 + 2, none⟩ = some (.int .i64 pz) ∧ w'.cell? ⟨gx, 0, none⟩ = some (.string x) ∧ w'.cell? ⟨gx, 1, none⟩ = some (.int .i64 f) ∧ w'.cell? ⟨gx, 2, none⟩ = some (.int .i64 z)) (first | exact ⟨HB2, (HDP.out _ HB2.out).1, HX.out.lt, (HDP.out _ HB2.out).2.1, (HDP.out _ HB2.out).2.2.1, (HDP.out _ HB2.out).2.2.2, HX.out.cells3.1, HX.out.cells3.2.1, HX.out.cells3.2.2⟩ | assumption)
                    (first
                      | (go_at_call 30; refine (after30 x px f pf z pz _).mono ?_; rintro e w3 ⟨rfl, hb⟩; rw [HBF.out]; replace HB2 := Lib.hid (upB HB2.out hb); replace HX := Lib.hid (HX.out.next hb); clear hb))) | fail
                  all_goals go_wp2_with fail
                  all_goals go_roundw
                  all_goals first | exact ⟨j + 1 + 1, by omega, by go_num, HN, HB2⟩ | (simp [intOf]; done) | (simp [intOf]; omega)
        · have e1 : (cc != 0) = true := by simp [h1]
          have HE : Hid (caS l = 18) := Lib.hid (by
            have e : er l k = 18 := by rw [HED.out, if_pos h1]
            rw [HER.out (by rw [e]; decide), e])
          clear h1
          go_wp2_with fail
          go_ret
          exact ⟨by rw [HE.out]; rfl, HB2.out⟩
      · have hltI : ¬ (k : Int) < (n : Int) := by omega
        have hkn : k = n := by omega
        have HE : Hid (caS l = 0) := Lib.hid (by rw [HCA.out, ← hkn]; exact HF.out)
        go_wp2_with fail
        go_ret
        exact ⟨by rw [HE.out]; rfl, HB.out⟩
set_option maxHeartbeats 2000000 in
theorem state22 (A : Option Addr) (n c : Nat) (l : List Ts) (s : ByteArray) (t : Int) (w : World) (h : Rt w w.heap.size A n l) : Calls Tryd.prog 22 #[.slice A n c, .string s, .int .i64 t] w fun e w' => e = .returned (.int .i64 (stS l s t)) ∧ Below w.heap.size w w' := by
  have HR := Lib.hid h
  have HL := Lib.hid h.1
  have hn := h.2.1
  clear h
  obtain ⟨cc, hcc⟩ : ∃ cc, ck s = cc := ⟨_, rfl⟩
  have HCC := Lib.hid hcc
  clear hcc
  go_enter Tryd.func22, Tryd.ntmps22
  go_wp2_with fail
  refine (check15 s _).mono ?_
  rintro e w0 ⟨rfl, hb⟩
  rw [HCC.out]
  replace HR := Lib.hid (HR.out.up hb)
  have HB0 := Lib.hid hb
  clear hb
  by_cases h1 : cc = 0
  · have e1 : (cc != 0) = false := by simp [h1]
    have HE0 : Hid (stS l s t = stk l s t n) := Lib.hid (by unfold stS; rw [HCC.out, if_pos h1, HL.out])
    clear h1
    go_wp2_with fail
    go_loopw [7, 15] (fun sv iv wr => ∃ k : Nat, k ≤ n ∧ sv = .int .i64 (stk l s t k) ∧ iv = .int .i64 k ∧ Hid (Below w0.heap.size w0 wr)) (fun _ iv _ => n - (intOf iv).toNat)
    case atStart => exact ⟨0, Nat.zero_le _, rfl, rfl, Lib.hid (Below.refl _ _)⟩
    case round =>
      obtain ⟨k, hk, rfl, rfl, HB⟩ := hrel
      by_cases hlt : k < n
      · have hltI : (k : Int) < (n : Int) := by omega
        obtain ⟨b, off, rfl, hbb, hcell⟩ := (HR.out.up HB.out).2.2.1 (by omega)
        obtain ⟨d0, d1, d2⟩ := hcell k hlt
        have HY := Lib.hid (stk_yes (l := l) (s := s) (t := t) (k := k))
        have HN := Lib.hid (stk_no (l := l) (s := s) (t := t) (k := k))
        obtain ⟨⟨x, f, z⟩, hxy⟩ : ∃ v, tat l k = v := ⟨_, rfl⟩
        rw [hxy] at d0 d1 d2 HY HN
        simp only at d0 d1 d2 HY HN
        clear hxy hcell
        have HX : Hid (Bx (wr.alloc (.cells #[.string x, .int .i64 f, .int .i64 z] 45)) wr.heap.size 45 #[.string x, .int .i64 f, .int .i64 z]) := Lib.hid (Bx.new _ _ _)
        have HB2 := Lib.hid (HB.out.alloc HB.out.size (.cells #[.string x, .int .i64 f, .int .i64 z] 45))
        obtain ⟨q, hq⟩ : ∃ q, (x.toList == s.toList) = q := ⟨_, rfl⟩
        have heq : eqb x s = q := hq
        rw [heq] at HY HN
        clear heq
        rcases fot q with rfl | rfl
        · have HS := Lib.hid (HN.out (fun h => by cases h.1))
          go_wp2_with fail
          go_roundw
          case rel => exact ⟨k + 1, by omega, by rw [HS.out], by go_num, HB2⟩
          case measure => simp [intOf]; omega
        · by_cases hf : f ≤ t
          · have HS := Lib.hid (HY.out rfl hf)
            go_wp2_with fail
            go_roundw
            case rel => exact ⟨k + 1, by omega, by rw [HS.out], by go_num, HB2⟩
            case measure => simp [intOf]; omega
          · have hf' : decide (f ≤ t) = false := decide_eq_false hf
            have HS := Lib.hid (HN.out (fun h => hf h.2))
            go_wp2_with fail
            go_roundw
            case rel => exact ⟨k + 1, by omega, by rw [HS.out], by go_num, HB2⟩
            case measure => simp [intOf]; omega
      · have hltI : ¬ (k : Int) < (n : Int) := by omega
        have hkn : k = n := by omega
        subst hkn
        go_wp2_with fail
        go_ret
        exact ⟨by first | (rw [HE0.out]; done) | (rw [HE0.out]; rfl), upB HB0.out HB.out⟩
  · have e1 : (cc != 0) = true := by simp [h1]
    have HE0 : Hid (stS l s t = 0) := Lib.hid (by unfold stS; rw [HCC.out, if_neg h1])
    clear h1
    go_wp2_with fail
    go_ret
    exact ⟨by rw [HE0.out]; rfl, HB0.out⟩
set_option maxHeartbeats 2000000 in
theorem state23 (A : Option Addr) (n c : Nat) (l : List Ts) (s : ByteArray) (t : Int) (w : World) (h : Rt w w.heap.size A n l) : Calls Tryd.prog 23 #[.slice A n c, .string s, .int .i64 t] w fun e w' => e = .returned (.int .i64 (stS l s t)) ∧ Below w.heap.size w w' := by
  have HR := Lib.hid h
  have HL := Lib.hid h.1
  have hn := h.2.1
  clear h
  obtain ⟨cc, hcc⟩ : ∃ cc, ck s = cc := ⟨_, rfl⟩
  have HCC := Lib.hid hcc
  clear hcc
  go_enter Tryd.func23, Tryd.ntmps23
  go_wp2_with fail
  refine (check16 s _).mono ?_
  rintro e w0 ⟨rfl, hb⟩
  rw [HCC.out]
  replace HR := Lib.hid (HR.out.up hb)
  have HB0 := Lib.hid hb
  clear hb
  by_cases h1 : cc = 0
  · have e1 : (cc != 0) = false := by simp [h1]
    have HE0 : Hid (stS l s t = stk l s t n) := Lib.hid (by unfold stS; rw [HCC.out, if_pos h1, HL.out])
    clear h1
    go_wp2_with fail
    go_loopw [7, 8] (fun sv iv wr => ∃ k : Nat, k ≤ n ∧ sv = .int .i64 (stk l s t k) ∧ iv = .int .i64 k ∧ Hid (Below w0.heap.size w0 wr)) (fun _ iv _ => n - (intOf iv).toNat)
    case atStart => exact ⟨0, Nat.zero_le _, rfl, rfl, Lib.hid (Below.refl _ _)⟩
    case round =>
      obtain ⟨k, hk, rfl, rfl, HB⟩ := hrel
      by_cases hlt : k < n
      · have hltI : (k : Int) < (n : Int) := by omega
        obtain ⟨b, off, rfl, hbb, hcell⟩ := (HR.out.up HB.out).2.2.1 (by omega)
        obtain ⟨d0, d1, d2⟩ := hcell k hlt
        have HY := Lib.hid (stk_yes (l := l) (s := s) (t := t) (k := k))
        have HN := Lib.hid (stk_no (l := l) (s := s) (t := t) (k := k))
        obtain ⟨⟨x, f, z⟩, hxy⟩ : ∃ v, tat l k = v := ⟨_, rfl⟩
        rw [hxy] at d0 d1 d2 HY HN
        simp only at d0 d1 d2 HY HN
        clear hxy hcell
        have HB2 := HB
        obtain ⟨q, hq⟩ : ∃ q, (x.toList == s.toList) = q := ⟨_, rfl⟩
        have heq : eqb x s = q := hq
        rw [heq] at HY HN
        clear heq
        rcases fot q with rfl | rfl
        · have HS := Lib.hid (HN.out (fun h => by cases h.1))
          go_wp2_with fail
          go_roundw
          case rel => exact ⟨k + 1, by omega, by rw [HS.out], by go_num, HB2⟩
          case measure => simp [intOf]; omega
        · by_cases hf : f ≤ t
          · have HS := Lib.hid (HY.out rfl hf)
            go_wp2_with fail
            go_roundw
            case rel => exact ⟨k + 1, by omega, by rw [HS.out], by go_num, HB2⟩
            case measure => simp [intOf]; omega
          · have hf' : decide (f ≤ t) = false := decide_eq_false hf
            have HS := Lib.hid (HN.out (fun h => hf h.2))
            go_wp2_with fail
            go_roundw
            case rel => exact ⟨k + 1, by omega, by rw [HS.out], by go_num, HB2⟩
            case measure => simp [intOf]; omega
      · have hltI : ¬ (k : Int) < (n : Int) := by omega
        have hkn : k = n := by omega
        subst hkn
        go_wp2_with fail
        go_ret
        exact ⟨by first | (rw [HE0.out]; done) | (rw [HE0.out]; rfl), upB HB0.out HB.out⟩
  · have e1 : (cc != 0) = true := by simp [h1]
    have HE0 : Hid (stS l s t = 0) := Lib.hid (by unfold stS; rw [HCC.out, if_neg h1])
    clear h1
    go_wp2_with fail
    go_ret
    exact ⟨by rw [HE0.out]; rfl, HB0.out⟩
end Go.Proofs.YtgghnamjjgmimaaDoor.Wk
