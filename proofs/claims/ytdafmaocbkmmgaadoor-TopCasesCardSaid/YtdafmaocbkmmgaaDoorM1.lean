/- Steps of a case never lead back. No condition. -/
import Derived.Test.YtdafmaocbkmmgaaDoorB6
import Derived.Test.YtdafmaocbkmmgaaDoorB12
set_option linter.unusedSimpArgs false
set_option linter.unusedVariables false
namespace Go.Proofs.YtdafmaocbkmmgaaDoor.Wk
open Go Go.RowKit Go.Proofs.YtdafmaocbkmmgaaDoor.Av
theorem lat_ge {cal : List Int} : ∀ (f : Nat) (d n : Int) {r : Int}, lat cal f d n = (r, 0) → d ≤ r
  | 0, d, n, r, h => by
    unfold lat at h
    split at h
    · injection h with h1 h2; omega
    · cases h
  | f + 1, d, n, r, h => by
    unfold lat at h
    split at h
    · injection h with h1 h2; omega
    · have := lat_ge f _ _ h; omega
theorem latS_ge {cal : List Int} {d n r : Int} (h : latS cal d n = (r, 0)) : d ≤ r := by
  unfold latS at h
  split at h
  · cases h
  · split at h
    · cases h
    · exact lat_ge _ _ _ h
def sumF (w : Lw) (s : Int) : Nat → Int
  | 0 => 0
  | k + 1 => sumF w s k + ix w.fees (s + (k : Int) - 1).toNat
theorem sumF_succ (w : Lw) (s : Int) (k : Nat) : sumF w s (k + 1) = sumF w s k + ix w.fees (s + (k : Int) - 1).toNat := rfl
theorem sumF_shift (w : Lw) (s : Int) : ∀ k, sumF w s (k + 1) = ix w.fees (s - 1).toNat + sumF w (s + 1) k
  | 0 => by simp [sumF]
  | k + 1 => by
    have ih := sumF_shift w s k
    rw [sumF_succ, ih, sumF_succ, show s + ((k + 1 : Nat) : Int) - 1 = s + 1 + (k : Int) - 1 by omega]
    omega
theorem sumF_le {w : Lw} (h : ckL w = 0) {s : Int} (hs : 1 ≤ s) : ∀ k : Nat, s + (k : Int) ≤ 5 → 0 ≤ sumF w s k ∧ sumF w s k ≤ (k : Int) * 2147483648
  | 0, _ => by simp [sumF]
  | k + 1, hk => by
    have ih := sumF_le h hs k (by omega)
    have hf := fee_ok h (s := s + (k : Int)) (by omega) (by omega)
    rw [sumF_succ]
    constructor
    · omega
    · push_cast; omega
structure RR (w : Lw) (day : Int) (x y : Cs) : Prop where
  b : y.begun = x.begun
  p : y.paused = x.paused
  a : y.ap = x.ap
  d : y.paid = x.paid
  ok : OKx w y
  s : x.since ≤ y.since ∧ y.since ≤ day
  o : (y.stage = 8 ∧ nxE w x ≤ day ∧ x.owed ≤ y.owed ∧ x.stage ≤ 4) ∨ (x.stage ≤ y.stage ∧ y.stage ≤ 5 ∧ y.owed = min (x.owed + sumF w x.stage (y.stage - x.stage).toNat) 1125899906842624)
theorem sp_cases (w : Lw) (cal : List Int) (x : Cs) (day : Int) : (sp w cal x day = (bar w x, true) ∧ 1 ≤ x.stage ∧ x.stage ≤ 4 ∧ nxE w x ≤ day) ∨ (sp w cal x day = (fwd w cal x, true) ∧ (due w cal x).2 = true ∧ (due w cal x).1 ≤ day ∧ (nxE w x ≤ day → (due w cal x).1 < nxE w x)) ∨ (sp w cal x day = (x, false) ∧ ((due w cal x).2 = true → day < (due w cal x).1)) := by
  unfold sp
  split
  · rename_i h
    simp only [Bool.and_eq_true, decide_eq_true_eq] at h
    exact .inl ⟨rfl, h.1.1.1, h.1.1.2, h.1.2⟩
  · rename_i h
    split
    · rename_i h2
      simp only [Bool.and_eq_true, decide_eq_true_eq] at h2
      refine .inr (.inl ⟨rfl, h2.1, h2.2, fun h3 => ?_⟩)
      have hk := due_ok h2.1
      rcases Int.lt_or_le (due w cal x).1 (nxE w x) with h4 | h4
      · exact h4
      · exfalso
        apply h
        simp only [Bool.and_eq_true, decide_eq_true_eq, Bool.or_eq_true]
        exact ⟨⟨⟨hk.2.1, hk.2.2.1⟩, h3⟩, .inr h4⟩
    · rename_i h2
      refine .inr (.inr ⟨rfl, fun h3 => ?_⟩)
      rw [h3, Bool.true_and] at h2
      simp at h2; exact h2
theorem sp_mono {w : Lw} {cal : List Int} {x : Cs} {a b : Int} (hab : a ≤ b) (h : (sp w cal x a).2 = true) : sp w cal x b = sp w cal x a := by
  rcases sp_cases w cal x a with ⟨e, h1, h2, h3⟩ | ⟨e, h1, h2, h3⟩ | ⟨e, _⟩
  · have hc : (!(due w cal x).2 || decide (nxE w x ≤ (due w cal x).1)) = true := by
      cases hc : (!(due w cal x).2 || decide (nxE w x ≤ (due w cal x).1)) with
      | true => rfl
      | false =>
        exfalso
        unfold sp at e
        rw [if_neg (by rw [hc, Bool.and_false]; simp)] at e
        split at e
        · injection e with e1 e2
          have := congrArg Cs.stage e1
          have h4 : x.stage + 1 = 8 := this
          omega
        · injection e with e1 e2; cases e2
    rw [e]
    unfold sp
    rw [if_pos]
    rw [hc, Bool.and_true]
    simp only [Bool.and_eq_true, decide_eq_true_eq]
    exact ⟨⟨h1, h2⟩, by omega⟩
  · rw [e]
    have hk := due_ok h1
    unfold sp
    rw [if_neg, if_pos]
    · rw [h1, Bool.true_and]; exact decide_eq_true (by omega)
    · rw [h1]
      simp only [Bool.not_true, Bool.false_or, Bool.and_eq_true, decide_eq_true_eq]
      rintro ⟨⟨_, h5⟩, h6⟩
      have := h3 (by omega)
      omega
  · rw [e] at h; cases h
theorem itR_succ (w : Lw) (cal : List Int) (day : Int) (n : Nat) (x : Cs) : itR w cal day (n + 1) x = if (sp w cal x day).2 = true then itR w cal day n (sp w cal x day).1 else x := rfl
theorem itR_sat (w : Lw) (cal : List Int) (day : Int) : ∀ (n : Nat) (x : Cs), (1 ≤ x.stage → x.stage ≤ 4 → 5 - x.stage ≤ (n : Int)) → itR w cal day (n + 1) x = itR w cal day n x
  | 0, x, h => by
    by_cases h1 : 1 ≤ x.stage ∧ x.stage ≤ 4
    · have := h h1.1 h1.2; omega
    · rw [itR_no (by omega), itR_no (by omega)]
  | n + 1, x, h => by
    by_cases h1 : 1 ≤ x.stage ∧ x.stage ≤ 4
    · rw [itR_succ w cal day (n + 1) x, itR_succ w cal day n x]
      rcases sp_cases w cal x day with ⟨e, _⟩ | ⟨e, _⟩ | ⟨e, _⟩
      · rw [e]
        rw [if_pos rfl, if_pos rfl]
        rw [itR_no (by right; show (4 : Int) < 8; omega), itR_no (by right; show (4 : Int) < 8; omega)]
      · rw [e]
        rw [if_pos rfl, if_pos rfl]
        have := h h1.1 h1.2
        exact itR_sat w cal day n _ (fun _ _ => by show 5 - (x.stage + 1) ≤ _; omega)
      · rw [e]; rfl
    · rw [itR_no (by omega), itR_no (by omega)]
theorem itR_twice {w : Lw} {cal : List Int} {a b : Int} (hab : a ≤ b) : ∀ (n : Nat) (x : Cs), itR w cal b 5 (itR w cal a n x) = itR w cal b 5 x
  | 0, x => rfl
  | n + 1, x => by
    rw [itR_succ w cal a n x]
    split
    · rename_i h
      rw [itR_twice hab n]
      rw [itR_succ w cal b 4 x, sp_mono hab h, if_pos h]
      exact itR_sat w cal b 4 _ (fun h1 h2 => by omega)
    · rfl
theorem itR_end (w : Lw) (cal : List Int) (day : Int) (x : Cs) : (sp w cal (itR w cal day 5 x) day).2 = false := by
  have h := itR_twice (w := w) (cal := cal) (Int.le_refl day) 5 x
  cases hs : (sp w cal (itR w cal day 5 x) day).2 with
  | false => rfl
  | true =>
    exfalso
    rcases sp_cases w cal (itR w cal day 5 x) day with ⟨e, h1, h2, h3⟩ | ⟨e, h1, h2, h3⟩ | ⟨e, _⟩
    · rw [itR_succ w cal day 4 (itR w cal day 5 x), e, if_pos rfl, itR_no (by right; show (4 : Int) < 8; omega)] at h
      have := congrArg Cs.stage h
      have h4 : (8 : Int) = (itR w cal day 5 x).stage := this
      omega
    · have hk := due_ok h1
      rw [itR_succ w cal day 4 (itR w cal day 5 x), e, if_pos rfl] at h
      have hg : ∀ n (z : Cs), z.stage ≤ (itR w cal day n z).stage := by
        intro n
        induction n with
        | zero => intro z; exact Int.le_refl _
        | succ n ih =>
          intro z
          rw [itR_succ]
          rcases sp_cases w cal z day with ⟨e, g1, g2, _⟩ | ⟨e, _⟩ | ⟨e, _⟩
          · rw [e, if_pos rfl, itR_no (by right; show (4 : Int) < 8; omega)]; show z.stage ≤ 8; omega
          · rw [e, if_pos rfl]
            have h5 : z.stage + 1 ≤ (itR w cal day n (fwd w cal z)).stage := ih (fwd w cal z)
            show z.stage ≤ (itR w cal day n (fwd w cal z)).stage
            omega
          · rw [e]; exact Int.le_refl _
      have h4 := hg 4 (fwd w cal (itR w cal day 5 x))
      have h5 : (itR w cal day 5 x).stage + 1 ≤ (itR w cal day 4 (fwd w cal (itR w cal day 5 x))).stage := h4
      have h := congrArg Cs.stage h
      simp only at h
      omega
    · rw [e] at hs; cases hs
theorem itR_rr {w : Lw} {cal : List Int} {day : Int} : ∀ (n : Nat) (x : Cs), OKx w x → x.since ≤ day → 1 ≤ x.stage → x.stage ≤ 5 → RR w day x (itR w cal day n x)
  | 0, x, hx, hs, h1, h5 => ⟨rfl, rfl, rfl, rfl, hx, ⟨Int.le_refl _, hs⟩, .inr ⟨Int.le_refl _, h5, by
      have := hx.o
      show x.owed = min (x.owed + sumF w x.stage (x.stage - x.stage).toNat) _
      rw [show (x.stage - x.stage).toNat = 0 by omega]
      simp only [sumF]; omega⟩⟩
  | n + 1, x, hx, hs, h1, h5 => by
    rw [itR_succ]
    rcases sp_cases w cal x day with ⟨e, g1, g2, g3⟩ | ⟨e, g1, g2, g3⟩ | ⟨e, _⟩
    · rw [e, if_pos rfl, itR_no (by right; show (4 : Int) < 8; omega)]
      refine ⟨rfl, rfl, rfl, rfl, bar_ok hx, ?_, .inl ⟨rfl, g3, Int.le_refl _, g2⟩⟩
      show x.since ≤ max x.since (nxE w x) ∧ max x.since (nxE w x) ≤ day
      omega
    · rw [e, if_pos rfl]
      have hk := due_ok g1
      have hge := latS_ge hk.2.2.2.2
      have hf := fee_ok hk.1 hk.2.1 hk.2.2.1
      have hxo := hx.o
      have ih := itR_rr (cal := cal) n (fwd w cal x) (fwd_ok hx g1) g2 (by show 1 ≤ x.stage + 1; omega) (by show x.stage + 1 ≤ 5; omega)
      generalize itR w cal day n (fwd w cal x) = y at ih
      obtain ⟨i1, i2, i3, i4, i5, i6, i7⟩ := ih
      have i6 : (due w cal x).1 ≤ y.since ∧ y.since ≤ day := i6
      refine ⟨i1, i2, i3, i4, i5, by omega, ?_⟩
      rcases i7 with ⟨j1, j2, j3, j4⟩ | ⟨j1, j2, j3⟩
      · left
        have j3 : min (x.owed + ix w.fees (x.stage - 1).toNat) 1125899906842624 ≤ y.owed := j3
        exact ⟨j1, j2, by omega, hk.2.2.1⟩
      · right
        have j1 : x.stage + 1 ≤ y.stage := j1
        have j3 : y.owed = min (min (x.owed + ix w.fees (x.stage - 1).toNat) 1125899906842624 + sumF w (x.stage + 1) (y.stage - (x.stage + 1)).toNat) 1125899906842624 := j3
        refine ⟨by omega, j2, ?_⟩
        have hk2 : (y.stage - x.stage).toNat = (y.stage - (x.stage + 1)).toNat + 1 := by omega
        rw [hk2, sumF_shift, j3]
        have hsl := sumF_le hk.1 (s := x.stage + 1) (by omega) (y.stage - (x.stage + 1)).toNat (by omega)
        omega
    · rw [e]
      exact ⟨rfl, rfl, rfl, rfl, hx, ⟨Int.le_refl _, hs⟩, .inr ⟨Int.le_refl _, h5, by
        have := hx.o
        show x.owed = min (x.owed + sumF w x.stage (x.stage - x.stage).toNat) _
        rw [show (x.stage - x.stage).toNat = 0 by omega]
        simp only [sumF]; omega⟩⟩
/-- what Advance makes of a case -/
theorem adv_eq {w : Lw} {cal : List Int} {x : Cs} {day : Int} (h : (adv w cal x day).2 = 0) : chA w x day = 0 ∧ ((x.ap.state = 1 ∧ (adv w cal x day).1 = x) ∨ (x.ap.state ≠ 1 ∧ (adv w cal x day).1 = itR w cal day 5 x)) := by
  unfold adv at h ⊢
  split at h
  · rename_i h1; simp at h1; exact absurd h h1
  · rename_i h1
    simp at h1
    refine ⟨h1, ?_⟩
    rw [if_neg (by rw [h1]; simp)]
    split
    · rename_i h2; exact .inl ⟨by simpa using h2, rfl⟩
    · rename_i h2; exact .inr ⟨by simpa using h2, (sw_itR w cal x day).symm⟩
theorem adv_of {w : Lw} {cal : List Int} {x : Cs} {day : Int} (h : chA w x day = 0) (hs : x.ap.state ≠ 1) : adv w cal x day = (itR w cal day 5 x, 0) := by
  unfold adv
  rw [if_neg (by rw [h]; simp), if_neg (by simpa using hs), sw_itR]
theorem adv_bad {w : Lw} {cal : List Int} {x : Cs} {day : Int} (h : chA w x day ≠ 0) : adv w cal x day = (z0, chA w x day) := by
  unfold adv
  rw [if_pos (by simpa using h)]
theorem chA_day {w : Lw} {x : Cs} {a b : Int} (h : OKx w x) (ha : 0 ≤ a ∧ a < 795364) (h2 : 0 ≤ x.since ∧ x.since ≤ a) (hab : a ≤ b) : chA w x b = if isD b = true then 0 else 12 := by
  split
  · rename_i hb
    have := isD_t hb
    exact chA_of h this (by omega)
  · rename_i hb
    unfold chA
    rw [if_neg (by rw [h.c]; simp), if_pos (by rw [nb hb]; simp)]
theorem adv_twice {w : Lw} {cal : List Int} {x : Cs} {a b : Int} (h : (adv w cal x a).2 = 0) (hab : a ≤ b) : adv w cal (adv w cal x a).1 b = adv w cal x b := by
  obtain ⟨hc, h1⟩ := adv_eq h
  rcases h1 with ⟨hs, e⟩ | ⟨hs, e⟩
  · rw [e]
  · rw [e]
    obtain ⟨hok, hday, hsin⟩ := chA_ok hc
    have key : OKx w (itR w cal a 5 x) ∧ (0 ≤ (itR w cal a 5 x).since ∧ (itR w cal a 5 x).since ≤ a) ∧ (itR w cal a 5 x).ap = x.ap := by
      by_cases hst : 1 ≤ x.stage ∧ x.stage ≤ 5
      · have := itR_rr (w := w) (cal := cal) (day := a) 5 x hok hsin.2 hst.1 hst.2
        exact ⟨this.ok, ⟨by have := this.s; omega, this.s.2⟩, this.a⟩
      · rw [itR_no (by omega)]; exact ⟨hok, hsin, rfl⟩
    obtain ⟨k1, k2, k3⟩ := key
    by_cases hb : isD b = true
    · rw [adv_of (by rw [chA_day k1 hday k2 hab, if_pos hb]) (by rw [k3]; exact hs), adv_of (by rw [chA_day hok hday hsin hab, if_pos hb]) hs, itR_twice hab]
    · rw [adv_bad (by rw [chA_day k1 hday k2 hab, if_neg hb]; decide), adv_bad (by rw [chA_day hok hday hsin hab, if_neg hb]; decide), chA_day k1 hday k2 hab, chA_day hok hday hsin hab]
theorem itR_ap (w : Lw) (cal : List Int) (day : Int) : ∀ (n : Nat) (x : Cs), (itR w cal day n x).ap = x.ap
  | 0, x => rfl
  | n + 1, x => by
    rw [itR_succ]
    rcases sp_cases w cal x day with ⟨e, _⟩ | ⟨e, _⟩ | ⟨e, _⟩
    · rw [e]; exact itR_ap w cal day n (bar w x)
    · rw [e]; exact itR_ap w cal day n (fwd w cal x)
    · rw [e]; rfl
theorem adv_ap {w : Lw} {cal : List Int} {x : Cs} {day : Int} (h : (adv w cal x day).2 = 0) : (adv w cal x day).1.ap = x.ap := by
  obtain ⟨_, ⟨_, e⟩ | ⟨_, e⟩⟩ := adv_eq h
  · rw [e]
  · rw [e]; exact itR_ap w cal day 5 x
theorem adv_key {w : Lw} {cal : List Int} {x : Cs} {day : Int} (h : (adv w cal x day).2 = 0) : OKx w (adv w cal x day).1 ∧ (0 ≤ day ∧ day < 795364) ∧ (0 ≤ (adv w cal x day).1.since ∧ (adv w cal x day).1.since ≤ day) := by
  obtain ⟨hc, h1⟩ := adv_eq h
  obtain ⟨hok, hday, hsin⟩ := chA_ok hc
  rcases h1 with ⟨hs, e⟩ | ⟨hs, e⟩
  · rw [e]; exact ⟨hok, hday, hsin⟩
  · rw [e]
    by_cases hst : 1 ≤ x.stage ∧ x.stage ≤ 5
    · have := itR_rr (w := w) (cal := cal) (day := day) 5 x hok hsin.2 hst.1 hst.2
      exact ⟨this.ok, hday, ⟨by have := this.s; omega, this.s.2⟩⟩
    · rw [itR_no (by omega)]; exact ⟨hok, hday, hsin⟩
theorem fil_err {w : Lw} {cal : List Int} {x : Cs} {g day : Int} (h : (fil w cal x g day).2 ≠ 0) : fil w cal x g day = (z0, (fil w cal x g day).2) := by
  unfold fil at h ⊢
  split
  · rfl
  · rename_i h0
    rw [if_neg h0] at h
    split
    · rfl
    · rename_i h1
      rw [if_neg h1] at h
      split
      · rfl
      · rename_i h2
        rw [if_neg h2] at h
        split
        · rfl
        · rename_i h3
          rw [if_neg h3] at h
          split
          · rfl
          · rename_i h4
            rw [if_neg h4] at h
            exact absurd rfl h
def yv (y : Cs) (g day : Int) : Cs := Cs.mk y.id y.plate y.key y.begun y.since y.stage y.owed y.paid y.paused (Ap.mk 1 g day)
theorem fil_ok {w : Lw} {cal : List Int} {x : Cs} {g day : Int} (h : (fil w cal x g day).2 = 0) : (adv w cal x day).2 = 0 ∧ fil w cal x g day = (yv (adv w cal x day).1 g day, 0) ∧ (adv w cal x day).1.ap.state = 0 := by
  unfold fil at h ⊢
  split at h
  · rename_i h0; simp at h0; exact absurd h h0
  · rename_i h0
    split at h
    · cases h
    · rename_i h1
      split at h
      · cases h
      · rename_i h2
        split at h
        · cases h
        · rename_i h3
          split at h
          · cases h
          · rename_i h4
            rw [if_neg h0, if_neg h1, if_neg h2, if_neg h3, if_neg h4]
            simp at h0 h3
            exact ⟨h0, rfl, h3.1⟩
theorem due_pend {w : Lw} {cal : List Int} {y : Cs} (h : y.ap.state = 1) : due w cal y = (0, false) := by
  unfold due
  rw [if_pos]
  unfold dueB
  rw [h]; simp
theorem last_no {w : Lw} {cal : List Int} {y : Cs} (h : y.ap.state ≠ 0) : last w cal y = (0, false) := by
  unfold last
  rw [if_pos]
  have : (y.ap.state != 0) = true := by simpa using h
  rw [this, Bool.or_true]
theorem adv_pend {w : Lw} {cal : List Int} {y : Cs} {d : Int} (h : y.ap.state = 1) (hok : OKx w y) (hd : 0 ≤ d ∧ d < 795364) (hs : 0 ≤ y.since ∧ y.since ≤ d) : adv w cal y d = (y, 0) := by
  unfold adv
  rw [if_neg (by rw [chA_of hok hd hs]; simp), if_pos (by rw [h]; rfl)]
theorem yv_ok {w : Lw} {y : Cs} {g d : Int} (h : OKx w y) : OKx w (yv y g d) := ⟨h.c, h.b, h.p, h.o⟩
theorem fil_dec {w : Lw} {cal : List Int} {y : Cs} {g d : Int} (h : y.ap.state ≠ 0) : (fil w cal y g d).2 ≠ 0 := by
  intro h0
  obtain ⟨h1, _, h3⟩ := fil_ok h0
  rw [adv_ap h1] at h3
  exact h h3
structure UpC (x y : Cs) : Prop where
  s : x.stage ≤ y.stage
  o : x.owed ≤ y.owed
  d : x.paid ≤ y.paid
  c : opn x = false → y = x
theorem UpC.rfl' (x : Cs) : UpC x x := ⟨Int.le_refl _, Int.le_refl _, Int.le_refl _, fun _ => rfl⟩
theorem opn_f {x : Cs} (h : opn x = false) : x.stage < 1 ∨ 5 < x.stage := by
  unfold opn at h
  simp at h
  omega
theorem adv_up {w : Lw} {cal : List Int} {x : Cs} {day : Int} (h : (adv w cal x day).2 = 0) : UpC x (adv w cal x day).1 ∧ (pend x = true → (adv w cal x day).1 = x) := by
  obtain ⟨hc, h1⟩ := adv_eq h
  obtain ⟨hok, hday, hsin⟩ := chA_ok hc
  rcases h1 with ⟨hs, e⟩ | ⟨hs, e⟩
  · rw [e]; exact ⟨.rfl' _, fun _ => rfl⟩
  · refine ⟨?_, fun hp => absurd (by simpa [pend] using hp) hs⟩
    rw [e]
    by_cases hst : 1 ≤ x.stage ∧ x.stage ≤ 5
    · have hr := itR_rr (w := w) (cal := cal) (day := day) 5 x hok hsin.2 hst.1 hst.2
      refine ⟨?_, ?_, by rw [hr.d]; exact Int.le_refl _, fun ho => ?_⟩
      · rcases hr.o with ⟨j1, _, _, j4⟩ | ⟨j1, _⟩
        · omega
        · exact j1
      · rcases hr.o with ⟨_, _, j3, _⟩ | ⟨j1, j2, j3⟩
        · exact j3
        · have hf := sumF_le hok.c hst.1 ((itR w cal day 5 x).stage - x.stage).toNat (by omega)
          have := hok.o
          rw [j3]
          omega
      · have := opn_f ho; omega
    · rw [itR_no (by omega)]; exact .rfl' _
theorem fil_opn {w : Lw} {cal : List Int} {x : Cs} {g day : Int} (h : (fil w cal x g day).2 = 0) : opn (adv w cal x day).1 = true := by
  unfold fil at h
  split at h
  · rename_i h0; simp at h0; exact absurd h h0
  · split at h
    · cases h
    · split at h
      · cases h
      · rename_i h2; exact nnb h2
theorem fil_up {w : Lw} {cal : List Int} {x : Cs} {g day : Int} (h : (fil w cal x g day).2 = 0) : UpC x (fil w cal x g day).1 := by
  obtain ⟨h1, h2, _⟩ := fil_ok h
  have h3 := fil_opn h
  have hu := (adv_up h1).1
  rw [h2]
  refine ⟨hu.s, hu.o, hu.d, fun ho => ?_⟩
  rw [hu.c ho, ho] at h3
  cases h3
theorem dec_up {w : Lw} {cal : List Int} {x : Cs} {up : Bool} {day : Int} (h : (dec w cal x up day).2 = 0) : UpC x (dec w cal x up day).1 := by
  unfold dec at h ⊢
  split at h
  · rename_i h0; simp at h0; exact absurd h h0
  · rename_i h0
    rw [if_neg h0]
    have hk := chD_ok (by simpa using h0)
    have ho := opn_t hk.2.1
    have hc : ∀ z : Cs, opn x = false → z = x := fun z hz => by rw [hk.2.1] at hz; cases hz
    cases up with
    | true => exact ⟨by show x.stage ≤ 7; omega, Int.le_refl _, Int.le_refl _, hc _⟩
    | false =>
      have h' : (adv w cal (dn x day) day).2 = 0 := h
      have hu := (adv_up h').1
      exact ⟨hu.s, hu.o, hu.d, hc _⟩
theorem pay_up {x : Cs} {c : Int} (h : (pay x c).2 = 0) : UpC x (pay x c).1.1 := by
  unfold pay at h ⊢
  split at h
  · cases h
  · rename_i h1
    split at h
    · cases h
    · rename_i h2
      have h2' := payB_f (nb h2)
      rw [if_neg h1, if_neg h2]
      have ho := nnb h1
      have hs := opn_t ho
      have hc : ∀ z : Cs, opn x = false → z = x := fun z hz => by rw [ho] at hz; cases hz
      split
      · exact ⟨Int.le_refl _, Int.le_refl _, by show x.paid ≤ x.paid + c; omega, hc _⟩
      · exact ⟨by show x.stage ≤ 6; omega, Int.le_refl _, by show x.paid ≤ max x.paid x.owed; omega, hc _⟩
theorem wv_up {x : Cs} (h : (wv x).2 = 0) : UpC x (wv x).1 := by
  unfold wv at h ⊢
  split at h
  · cases h
  · rename_i h1
    rw [if_neg h1]
    have ho := nnb h1
    have hs := opn_t ho
    exact ⟨by show x.stage ≤ 7; omega, Int.le_refl _, Int.le_refl _, fun hz => by rw [ho] at hz; cases hz⟩

end Go.Proofs.YtdafmaocbkmmgaaDoor.Wk
