/- The check of a zone. Conditions: as each theorem names them. -/
import Derived.Test.YtniefocnfcaebaaNw
import Derived.Test.YtniefocnfcaebaaB2
set_option linter.unusedSimpArgs false
set_option linter.unusedVariables false
namespace Go.Proofs.Ytniefocnfcaebaa.Wk
open Go Go.RowKit Go.Proofs.Ytniefocnfcaebaa.Av
theorem ne_self_b (a : Int) : (a != a) = false := by simp
theorem sEq_eq {a b : ByteArray} (h : sEq a b = true) : a = b := of_decide_eq_true h
theorem sEq_of {a b : ByteArray} (h : a = b) : sEq a b = true := decide_eq_true h
theorem nb {b : Bool} (h : ¬ b = true) : b = false := by cases b <;> simp at h ⊢
theorem nnb {b : Bool} (h : ¬ (!b) = true) : b = true := by cases b <;> simp at h ⊢

def fe (f : Nat → Int) : Nat → Nat → Int
  | _, 0 => 0
  | i, n + 1 => if f i = 0 then fe f (i + 1) n else f i
theorem fe_at {f : Nat → Int} {k n : Nat} (h : k < n) : fe f k (n - k) = if f k = 0 then fe f (k + 1) (n - (k + 1)) else f k := by
  rw [show n - k = (n - (k + 1)) + 1 by omega]; rfl
theorem fe_end {f : Nat → Int} {k n : Nat} (h : ¬ k < n) : fe f k (n - k) = 0 := by
  rw [show n - k = 0 by omega]; rfl
theorem fe_no {f : Nat → Int} {k n : Nat} {c : Int} (h : k < n) (hc : c = fe f k (n - k)) (hb : f k = 0) : c = fe f (k + 1) (n - (k + 1)) := by rw [hc, fe_at h, if_pos hb]
theorem fe_yes {f : Nat → Int} {k n : Nat} {c e : Int} (h : k < n) (hc : c = fe f k (n - k)) (hb : f k = e) (he : e ≠ 0) : c = e := by rw [hc, fe_at h, hb, if_neg he]
theorem nmbt {s : ByteArray} {k : Nat} (h : k < s.size) : Nm.bt s k = ((bt s k).toNat : Int) := by
  rw [← Nm.bt_at h]
  have h1 := byte_ix (s := s) (k := k) h
  have h2 : s[k]? = some (bt s k) := by simpa using h1
  rw [getElem?_pos s k h] at h2
  injection h2 with h2
  rw [h2]
def cN (x : Int) : Bool := ((decide (97 ≤ x) && decide (x ≤ 122)) || (decide (48 ≤ x) && decide (x ≤ 57))) || (x == 45)
theorem cN_t {x : Int} (h : cN x = true) : (97 ≤ x ∧ x ≤ 122) ∨ (48 ≤ x ∧ x ≤ 57) ∨ x = 45 := by simp [cN] at h; omega
theorem cN_of {x : Int} (h : (97 ≤ x ∧ x ≤ 122) ∨ (48 ≤ x ∧ x ≤ 57) ∨ x = 45) : cN x = true := by simp [cN]; omega
theorem nm_yes {s : ByteArray} (h1 : 1 ≤ s.size) (h2 : s.size ≤ 12) (h3 : 97 ≤ ((bt s 0).toNat : Int)) (h4 : ((bt s 0).toNat : Int) ≤ 122) (hq : ∀ q, q < s.size → cN ((bt s q).toNat : Int) = true) : Nm.nmB s = true := by
  refine Nm.nmB_yes ⟨h1, h2, fun i hi => ?_⟩
  rw [nmbt hi]
  by_cases h0 : i = 0
  · subst h0; exact .inl ⟨h3, h4⟩
  · rcases cN_t (hq i hi) with h | h | h
    · exact .inl h
    · exact .inr ⟨h0, .inl h⟩
    · exact .inr ⟨h0, .inr h⟩
theorem nm_no0 {s : ByteArray} (h : ¬ (1 ≤ s.size ∧ s.size ≤ 12 ∧ 97 ≤ ((bt s 0).toNat : Int) ∧ ((bt s 0).toNat : Int) ≤ 122)) : Nm.nmB s = false := by
  refine Nm.nmB_no (fun hn => h ⟨hn.1, hn.2.1, ?_⟩)
  have := hn.2.2 0 (by have := hn.1; omega)
  rw [nmbt (by have := hn.1; omega)] at this
  rcases this with h | h
  · exact h
  · exact absurd rfl h.1
theorem nm_noq {s : ByteArray} {k : Nat} (hk : k < s.size) (h : cN ((bt s k).toNat : Int) = false) : Nm.nmB s = false := by
  refine Nm.nmB_no (fun hn => ?_)
  have h2 := hn.2.2 k hk
  rw [nmbt hk] at h2
  have : cN ((bt s k).toNat : Int) = true := cN_of (by rcases h2 with h2 | ⟨_, h2 | h2⟩ <;> omega)
  rw [this] at h; cases h
def sbad (s : Stp) : Bool := ((decide (s.unit < 1) || decide (68719476736 < s.unit)) || decide (s.cents < 0)) || decide (2147483648 < s.cents)
def ubad (s : Stp) : Bool := decide (s.upto < 1) || decide (68719476736 < s.upto)
def st1 (l : List Stp) (k : Nat) : Int := if sbad (ix l k) = true then 1 else if k + 1 = l.length then (if (ix l k).upto = 0 then 0 else 12) else if ubad (ix l k) = true then 12 else if 0 < k ∧ (ix l k).upto ≤ (ix l (k - 1)).upto then 15 else 0
def stE (l : List Stp) : Int := fe (st1 l) 0 l.length
def bef (l : List Stp) (k : Nat) : Int := if k = 0 then 0 else if k = l.length then (if k = 1 then 0 else (ix l (k - 2)).upto) else (ix l (k - 1)).upto
theorem bef_s {l : List Stp} {k : Nat} (h : k + 1 < l.length) : (ix l k).upto = bef l (k + 1) := by unfold bef; rw [if_neg (by omega), if_neg (by omega)]; simp
theorem bef_l {l : List Stp} {k : Nat} (h : k + 1 = l.length) : bef l k = bef l (k + 1) := by
  unfold bef
  rw [if_neg (by omega : ¬ k + 1 = 0), if_pos h]
  by_cases h0 : k = 0
  · subst h0; rfl
  · rw [if_neg h0, if_neg (by omega), if_neg (by omega)]; congr 2
theorem bef_v {l : List Stp} {k : Nat} (h : k < l.length) (h0 : 0 < k) : bef l k = (ix l (k - 1)).upto := by unfold bef; rw [if_neg (by omega), if_neg (by omega)]
theorem bef_0 (l : List Stp) : bef l 0 = 0 := rfl
theorem st_bad {l : List Stp} {k : Nat} (h : sbad (ix l k) = true) : st1 l k = 1 := by unfold st1; rw [if_pos h]
theorem st_l0 {l : List Stp} {k : Nat} (h : sbad (ix l k) = false) (hl : k + 1 = l.length) (hu : (ix l k).upto = 0) : st1 l k = 0 := by unfold st1; rw [if_neg (by rw [h]; decide), if_pos hl, if_pos hu]
theorem st_l1 {l : List Stp} {k : Nat} (h : sbad (ix l k) = false) (hl : k + 1 = l.length) (hu : (ix l k).upto ≠ 0) : st1 l k = 12 := by unfold st1; rw [if_neg (by rw [h]; decide), if_pos hl, if_neg hu]
theorem st_u {l : List Stp} {k : Nat} (h : sbad (ix l k) = false) (hl : ¬ k + 1 = l.length) (hu : ubad (ix l k) = true) : st1 l k = 12 := by unfold st1; rw [if_neg (by rw [h]; decide), if_neg hl, if_pos hu]
theorem st_o {l : List Stp} {k : Nat} (h : sbad (ix l k) = false) (hl : ¬ k + 1 = l.length) (hu : ubad (ix l k) = false) (ho : 0 < k ∧ (ix l k).upto ≤ (ix l (k - 1)).upto) : st1 l k = 15 := by unfold st1; rw [if_neg (by rw [h]; decide), if_neg hl, if_neg (by rw [hu]; decide), if_pos ho]
theorem st_0 {l : List Stp} {k : Nat} (h : sbad (ix l k) = false) (hl : ¬ k + 1 = l.length) (hu : ubad (ix l k) = false) (ho : ¬ (0 < k ∧ (ix l k).upto ≤ (ix l (k - 1)).upto)) : st1 l k = 0 := by unfold st1; rw [if_neg (by rw [h]; decide), if_neg hl, if_neg (by rw [hu]; decide), if_neg ho]
def stC (l : List Stp) : Int := if 16 < l.length then 3 else if l.length = 0 then 1 else stE l
def hr1 (l : List Wd) (k : Nat) : Int := if vW (ix l k) = true then 0 else 12
def hrE (l : List Wd) : Int := fe (hr1 l) 0 l.length
theorem hr_y {l : List Wd} {k : Nat} (h : vW (ix l k) = true) : hr1 l k = 0 := by unfold hr1; rw [if_pos h]
theorem hr_n {l : List Wd} {k : Nat} (h : vW (ix l k) = false) : hr1 l k = 12 := by unfold hr1; rw [if_neg (by rw [h]; decide)]
def dur (t : Int) : Bool := decide (0 ≤ t) && decide (t ≤ 68719476736)
noncomputable def zck (z : Zn) : Int := if Nm.nmB z.name = false then 6 else if 32 < z.hours.length then 3 else if hrE z.hours ≠ 0 then hrE z.hours else if stC z.steps ≠ 0 then stC z.steps else if ((dur z.grace && dur z.free) && dur z.stay) = false then 12 else if z.dayMax < 0 ∨ 1125899906842624 < z.dayMax then 13 else 0
theorem fe_in {g : Nat → Int} {e : Int} (h : ∀ k, g k = 0 ∨ g k = e) : ∀ n i, fe g i n = 0 ∨ fe g i n = e
  | 0, i => .inl rfl
  | n + 1, i => by
    have hs : fe g i (n + 1) = if g i = 0 then fe g (i + 1) n else g i := rfl
    rw [hs]; split
    · exact fe_in h n (i + 1)
    · exact h i
theorem hrE_in (l : List Wd) : hrE l = 0 ∨ hrE l = 12 := fe_in (fun k => by unfold hr1; split <;> simp) _ _
theorem nam14 (s : ByteArray) : Ctr Try.prog 32 [.fl (.string s)] (.d (.fl (.bool (Nm.nmB s)))) := ctr_flat [.string s] (fun w => Nw.name14 s w)


set_option maxHeartbeats 4000000 in
set_option maxRecDepth 100000 in
theorem isW24 (w : Wd) : Ctr Try.prog 42 [.ag (eWd w)] (.d (.fl (.bool (vW w)))) := by
  refine ctr (n := 28) (rs := #[.tmp 2]) (L := [(0, .d (.ag (eWd w)))]) Try.func42 rfl rfl rfl rfl rfl (fun w0 U0 => ?_)
  refine a_rseq ?_
  refine rg_nam (d := 1) (v := .pt 101 0) (m := 101) (nw := [(101, .bx 48 (eWd w))]) rfl (og rfl (of_eff (op_box 101 rfl rfl rfl rfl) rfl)) rfl ?_
  refine rg_put (d := 2) (v := .d (.fl (.bool false))) rfl (og rfl (op_assign rfl rfl rfl)) ?_
  refine rg_done rfl ?_
  refine a_rseq ?_
  refine rg_put (d := 3) (v := .pt 101 0) rfl (og rfl (of_eff (s_field_pt rfl Try.underlying48 rfl ti3 rfl rfl rfl) rfl)) ?_
  refine rg_put (d := 4) (v := .d (.fl (.int .i64 w.days))) rfl (og rfl (op_load_pt rfl Try.underlying3 rfl rfl rfl rfl rfl)) ?_
  refine rg_put (d := 5) (v := .d (.fl (.bool ((decide (1 ≤ w.days)))))) rfl (og rfl (op_bin rfl rfl rfl (b_geq _ _ _ _) rfl)) ?_
  refine rg_put (d := 6) (v := .d (.fl (.bool ((decide (1 ≤ w.days)))))) rfl (og rfl (op_move rfl rfl rfl)) ?_
  rcases fot ((decide (1 ≤ w.days))) with h1 | h1
  · skip
    have h2 := f_dec h1
    refine rg_put (d := 7) (v := .d (.fl undef)) rfl (on rfl rfl rfl h1) ?_
    refine rg_put (d := 8) (v := .d (.fl undef)) rfl (on rfl rfl rfl h1) ?_
    refine rg_put (d := 9) (v := .d (.fl undef)) rfl (on rfl rfl rfl h1) ?_
    refine rg_put (d := 10) (v := .d (.fl (.bool false))) rfl (og rfl (op_pick rfl rfl (by rw [h1]; rfl) rfl)) ?_
    refine rg_put (d := 11) (v := .d (.fl (.bool false))) rfl (og rfl (op_move rfl rfl rfl)) ?_
    refine rg_put (d := 12) (v := .d (.fl undef)) rfl (on rfl rfl rfl rfl) ?_
    refine rg_put (d := 13) (v := .d (.fl undef)) rfl (on rfl rfl rfl rfl) ?_
    refine rg_put (d := 14) (v := .d (.fl undef)) rfl (on rfl rfl rfl rfl) ?_
    refine rg_put (d := 15) (v := .d (.fl (.bool false))) rfl (og rfl (op_pick rfl rfl rfl rfl)) ?_
    refine rg_put (d := 16) (v := .d (.fl (.bool false))) rfl (og rfl (op_move rfl rfl rfl)) ?_
    refine rg_put (d := 17) (v := .d (.fl undef)) rfl (on rfl rfl rfl rfl) ?_
    refine rg_put (d := 18) (v := .d (.fl undef)) rfl (on rfl rfl rfl rfl) ?_
    refine rg_put (d := 19) (v := .d (.fl undef)) rfl (on rfl rfl rfl rfl) ?_
    refine rg_put (d := 20) (v := .d (.fl undef)) rfl (on rfl rfl rfl rfl) ?_
    refine rg_put (d := 21) (v := .d (.fl undef)) rfl (on rfl rfl rfl rfl) ?_
    refine rg_put (d := 22) (v := .d (.fl (.bool false))) rfl (og rfl (op_pick rfl rfl rfl rfl)) ?_
    refine rg_put (d := 23) (v := .d (.fl (.bool false))) rfl (og rfl (op_move rfl rfl rfl)) ?_
    refine rg_put (d := 24) (v := .d (.fl undef)) rfl (on rfl rfl rfl rfl) ?_
    refine rg_put (d := 25) (v := .d (.fl undef)) rfl (on rfl rfl rfl rfl) ?_
    refine rg_put (d := 26) (v := .d (.fl undef)) rfl (on rfl rfl rfl rfl) ?_
    refine rg_put (d := 27) (v := .d (.fl (.bool false))) rfl (og rfl (op_pick rfl rfl rfl rfl)) ?_
    refine rg_put (d := 2) (v := .d (.fl (.bool false))) rfl (og rfl (op_assign rfl rfl rfl)) ?_
    refine rg_done rfl ?_
    refine a_ret ?_
    show ∃ ds, ResL _ _ _ ds ∧ RV.of ds = _
    refine ⟨[.fl (.bool false)], (.cons (.tmp rfl (.d _)) .nil), ?_⟩
    first
      | (have hu : vW w = false := by
          unfold vW; simp only [h1, Bool.true_or, Bool.false_or, Bool.or_true, Bool.or_false, Bool.not_true, Bool.not_false, cond_true, cond_false, Bool.true_and, Bool.false_and, Bool.and_true, Bool.and_false] <;> rfl
         rw [hu]; rfl)
      | (exfalso; omega)
  · skip
    have h3 := t_dec h1
    refine rg_put (d := 7) (v := .pt 101 0) rfl (oy rfl rfl rfl h1 (of_eff (s_field_pt rfl Try.underlying48 rfl ti3 rfl rfl rfl) rfl)) ?_
    refine rg_put (d := 8) (v := .d (.fl (.int .i64 w.days))) rfl (oy rfl rfl rfl h1 (op_load_pt rfl Try.underlying3 rfl rfl rfl rfl rfl)) ?_
    refine rg_put (d := 9) (v := .d (.fl (.bool ((decide (w.days ≤ 127)))))) rfl (oy rfl rfl rfl h1 (op_bin rfl rfl rfl (b_leq _ _ _ _) rfl)) ?_
    refine rg_put (d := 10) (v := .d (.fl (.bool ((decide (w.days ≤ 127)))))) rfl (og rfl (op_pick rfl rfl (by rw [h1]; rfl) rfl)) ?_
    refine rg_put (d := 11) (v := .d (.fl (.bool ((decide (w.days ≤ 127)))))) rfl (og rfl (op_move rfl rfl rfl)) ?_
    rcases fot ((decide (w.days ≤ 127))) with h4 | h4
    · skip
      have h5 := f_dec h4
      refine rg_put (d := 12) (v := .d (.fl undef)) rfl (on rfl rfl rfl h4) ?_
      refine rg_put (d := 13) (v := .d (.fl undef)) rfl (on rfl rfl rfl h4) ?_
      refine rg_put (d := 14) (v := .d (.fl undef)) rfl (on rfl rfl rfl h4) ?_
      refine rg_put (d := 15) (v := .d (.fl (.bool false))) rfl (og rfl (op_pick rfl rfl (by rw [h4]; rfl) rfl)) ?_
      refine rg_put (d := 16) (v := .d (.fl (.bool false))) rfl (og rfl (op_move rfl rfl rfl)) ?_
      refine rg_put (d := 17) (v := .d (.fl undef)) rfl (on rfl rfl rfl rfl) ?_
      refine rg_put (d := 18) (v := .d (.fl undef)) rfl (on rfl rfl rfl rfl) ?_
      refine rg_put (d := 19) (v := .d (.fl undef)) rfl (on rfl rfl rfl rfl) ?_
      refine rg_put (d := 20) (v := .d (.fl undef)) rfl (on rfl rfl rfl rfl) ?_
      refine rg_put (d := 21) (v := .d (.fl undef)) rfl (on rfl rfl rfl rfl) ?_
      refine rg_put (d := 22) (v := .d (.fl (.bool false))) rfl (og rfl (op_pick rfl rfl rfl rfl)) ?_
      refine rg_put (d := 23) (v := .d (.fl (.bool false))) rfl (og rfl (op_move rfl rfl rfl)) ?_
      refine rg_put (d := 24) (v := .d (.fl undef)) rfl (on rfl rfl rfl rfl) ?_
      refine rg_put (d := 25) (v := .d (.fl undef)) rfl (on rfl rfl rfl rfl) ?_
      refine rg_put (d := 26) (v := .d (.fl undef)) rfl (on rfl rfl rfl rfl) ?_
      refine rg_put (d := 27) (v := .d (.fl (.bool false))) rfl (og rfl (op_pick rfl rfl rfl rfl)) ?_
      refine rg_put (d := 2) (v := .d (.fl (.bool false))) rfl (og rfl (op_assign rfl rfl rfl)) ?_
      refine rg_done rfl ?_
      refine a_ret ?_
      show ∃ ds, ResL _ _ _ ds ∧ RV.of ds = _
      refine ⟨[.fl (.bool false)], (.cons (.tmp rfl (.d _)) .nil), ?_⟩
      first
        | (have hu : vW w = false := by
            unfold vW; simp only [h1, h4, Bool.true_or, Bool.false_or, Bool.or_true, Bool.or_false, Bool.not_true, Bool.not_false, cond_true, cond_false, Bool.true_and, Bool.false_and, Bool.and_true, Bool.and_false] <;> rfl
           rw [hu]; rfl)
        | (exfalso; omega)
    · skip
      have h6 := t_dec h4
      refine rg_put (d := 12) (v := .pt 101 1) rfl (oy rfl rfl rfl h4 (of_eff (s_field_pt rfl Try.underlying48 rfl ti3 rfl rfl rfl) rfl)) ?_
      refine rg_put (d := 13) (v := .d (.fl (.int .i64 w.fr))) rfl (oy rfl rfl rfl h4 (op_load_pt rfl Try.underlying3 rfl rfl rfl rfl rfl)) ?_
      refine rg_put (d := 14) (v := .d (.fl (.bool ((decide (0 ≤ w.fr)))))) rfl (oy rfl rfl rfl h4 (op_bin rfl rfl rfl (b_geq _ _ _ _) rfl)) ?_
      refine rg_put (d := 15) (v := .d (.fl (.bool ((decide (0 ≤ w.fr)))))) rfl (og rfl (op_pick rfl rfl (by rw [h4]; rfl) rfl)) ?_
      refine rg_put (d := 16) (v := .d (.fl (.bool ((decide (0 ≤ w.fr)))))) rfl (og rfl (op_move rfl rfl rfl)) ?_
      rcases fot ((decide (0 ≤ w.fr))) with h7 | h7
      · skip
        have h8 := f_dec h7
        refine rg_put (d := 17) (v := .d (.fl undef)) rfl (on rfl rfl rfl h7) ?_
        refine rg_put (d := 18) (v := .d (.fl undef)) rfl (on rfl rfl rfl h7) ?_
        refine rg_put (d := 19) (v := .d (.fl undef)) rfl (on rfl rfl rfl h7) ?_
        refine rg_put (d := 20) (v := .d (.fl undef)) rfl (on rfl rfl rfl h7) ?_
        refine rg_put (d := 21) (v := .d (.fl undef)) rfl (on rfl rfl rfl h7) ?_
        refine rg_put (d := 22) (v := .d (.fl (.bool false))) rfl (og rfl (op_pick rfl rfl (by rw [h7]; rfl) rfl)) ?_
        refine rg_put (d := 23) (v := .d (.fl (.bool false))) rfl (og rfl (op_move rfl rfl rfl)) ?_
        refine rg_put (d := 24) (v := .d (.fl undef)) rfl (on rfl rfl rfl rfl) ?_
        refine rg_put (d := 25) (v := .d (.fl undef)) rfl (on rfl rfl rfl rfl) ?_
        refine rg_put (d := 26) (v := .d (.fl undef)) rfl (on rfl rfl rfl rfl) ?_
        refine rg_put (d := 27) (v := .d (.fl (.bool false))) rfl (og rfl (op_pick rfl rfl rfl rfl)) ?_
        refine rg_put (d := 2) (v := .d (.fl (.bool false))) rfl (og rfl (op_assign rfl rfl rfl)) ?_
        refine rg_done rfl ?_
        refine a_ret ?_
        show ∃ ds, ResL _ _ _ ds ∧ RV.of ds = _
        refine ⟨[.fl (.bool false)], (.cons (.tmp rfl (.d _)) .nil), ?_⟩
        first
          | (have hu : vW w = false := by
              unfold vW; simp only [h1, h4, h7, Bool.true_or, Bool.false_or, Bool.or_true, Bool.or_false, Bool.not_true, Bool.not_false, cond_true, cond_false, Bool.true_and, Bool.false_and, Bool.and_true, Bool.and_false] <;> rfl
             rw [hu]; rfl)
          | (exfalso; omega)
      · skip
        have h9 := t_dec h7
        refine rg_put (d := 17) (v := .pt 101 1) rfl (oy rfl rfl rfl h7 (of_eff (s_field_pt rfl Try.underlying48 rfl ti3 rfl rfl rfl) rfl)) ?_
        refine rg_put (d := 18) (v := .d (.fl (.int .i64 w.fr))) rfl (oy rfl rfl rfl h7 (op_load_pt rfl Try.underlying3 rfl rfl rfl rfl rfl)) ?_
        refine rg_put (d := 19) (v := .pt 101 2) rfl (oy rfl rfl rfl h7 (of_eff (s_field_pt rfl Try.underlying48 rfl ti3 rfl rfl rfl) rfl)) ?_
        refine rg_put (d := 20) (v := .d (.fl (.int .i64 w.to))) rfl (oy rfl rfl rfl h7 (op_load_pt rfl Try.underlying3 rfl rfl rfl rfl rfl)) ?_
        refine rg_put (d := 21) (v := .d (.fl (.bool ((decide (w.fr < w.to)))))) rfl (oy rfl rfl rfl h7 (op_bin rfl rfl rfl (b_lss _ _ _ _) rfl)) ?_
        refine rg_put (d := 22) (v := .d (.fl (.bool ((decide (w.fr < w.to)))))) rfl (og rfl (op_pick rfl rfl (by rw [h7]; rfl) rfl)) ?_
        refine rg_put (d := 23) (v := .d (.fl (.bool ((decide (w.fr < w.to)))))) rfl (og rfl (op_move rfl rfl rfl)) ?_
        rcases fot ((decide (w.fr < w.to))) with h10 | h10
        · skip
          have h11 := f_dec h10
          refine rg_put (d := 24) (v := .d (.fl undef)) rfl (on rfl rfl rfl h10) ?_
          refine rg_put (d := 25) (v := .d (.fl undef)) rfl (on rfl rfl rfl h10) ?_
          refine rg_put (d := 26) (v := .d (.fl undef)) rfl (on rfl rfl rfl h10) ?_
          refine rg_put (d := 27) (v := .d (.fl (.bool false))) rfl (og rfl (op_pick rfl rfl (by rw [h10]; rfl) rfl)) ?_
          refine rg_put (d := 2) (v := .d (.fl (.bool false))) rfl (og rfl (op_assign rfl rfl rfl)) ?_
          refine rg_done rfl ?_
          refine a_ret ?_
          show ∃ ds, ResL _ _ _ ds ∧ RV.of ds = _
          refine ⟨[.fl (.bool false)], (.cons (.tmp rfl (.d _)) .nil), ?_⟩
          first
            | (have hu : vW w = false := by
                unfold vW; simp only [h1, h4, h7, h10, Bool.true_or, Bool.false_or, Bool.or_true, Bool.or_false, Bool.not_true, Bool.not_false, cond_true, cond_false, Bool.true_and, Bool.false_and, Bool.and_true, Bool.and_false] <;> rfl
               rw [hu]; rfl)
            | (exfalso; omega)
        · skip
          have h12 := t_dec h10
          refine rg_put (d := 24) (v := .pt 101 2) rfl (oy rfl rfl rfl h10 (of_eff (s_field_pt rfl Try.underlying48 rfl ti3 rfl rfl rfl) rfl)) ?_
          refine rg_put (d := 25) (v := .d (.fl (.int .i64 w.to))) rfl (oy rfl rfl rfl h10 (op_load_pt rfl Try.underlying3 rfl rfl rfl rfl rfl)) ?_
          refine rg_put (d := 26) (v := .d (.fl (.bool ((decide (w.to ≤ 1440)))))) rfl (oy rfl rfl rfl h10 (op_bin rfl rfl rfl (b_leq _ _ _ _) rfl)) ?_
          refine rg_put (d := 27) (v := .d (.fl (.bool ((decide (w.to ≤ 1440)))))) rfl (og rfl (op_pick rfl rfl (by rw [h10]; rfl) rfl)) ?_
          refine rg_put (d := 2) (v := .d (.fl (.bool ((decide (w.to ≤ 1440)))))) rfl (og rfl (op_assign rfl rfl rfl)) ?_
          refine rg_done rfl ?_
          refine a_ret ?_
          show ∃ ds, ResL _ _ _ ds ∧ RV.of ds = _
          refine ⟨[.fl (.bool ((decide (w.to ≤ 1440))))], (.cons (.tmp rfl (.d _)) .nil), ?_⟩
          first
            | (have hu : vW w = (decide (w.to ≤ 1440)) := by
                unfold vW; simp only [h1, h4, h7, h10, Bool.true_or, Bool.false_or, Bool.or_true, Bool.or_false, Bool.not_true, Bool.not_false, cond_true, cond_false, Bool.true_and, Bool.false_and, Bool.and_true, Bool.and_false] <;> rfl
               rw [hu]; rfl)
            | (exfalso; omega)
set_option maxHeartbeats 4000000 in
set_option maxRecDepth 100000 in
theorem dur22 (t : Int) : Ctr Try.prog 35 [.fl (.int .i64 t)] (.d (.fl (.bool (dur t)))) := by
  refine ctr (n := 9) (rs := #[.tmp 2]) (L := [(0, .d (.fl (.int .i64 t)))]) Try.func35 rfl rfl rfl rfl rfl (fun w0 U0 => ?_)
  refine a_rseq ?_
  refine rg_put (d := 2) (v := .d (.fl (.bool false))) rfl (og rfl (op_assign rfl rfl rfl)) ?_
  refine rg_done rfl ?_
  refine a_rseq ?_
  refine rg_put (d := 3) (v := .d (.fl (.int .i64 t))) rfl (og rfl (op_move rfl rfl rfl)) ?_
  refine rg_put (d := 4) (v := .d (.fl (.bool ((decide (0 ≤ t)))))) rfl (og rfl (op_bin rfl rfl rfl (b_leq _ _ _ _) rfl)) ?_
  refine rg_put (d := 5) (v := .d (.fl (.bool ((decide (0 ≤ t)))))) rfl (og rfl (op_move rfl rfl rfl)) ?_
  rcases fot ((decide (0 ≤ t))) with h1 | h1
  · skip
    have h2 := f_dec h1
    refine rg_put (d := 6) (v := .d (.fl undef)) rfl (on rfl rfl rfl h1) ?_
    refine rg_put (d := 7) (v := .d (.fl undef)) rfl (on rfl rfl rfl h1) ?_
    refine rg_put (d := 8) (v := .d (.fl (.bool false))) rfl (og rfl (op_pick rfl rfl (by rw [h1]; rfl) rfl)) ?_
    refine rg_put (d := 2) (v := .d (.fl (.bool false))) rfl (og rfl (op_assign rfl rfl rfl)) ?_
    refine rg_done rfl ?_
    refine a_ret ?_
    show ∃ ds, ResL _ _ _ ds ∧ RV.of ds = _
    refine ⟨[.fl (.bool false)], (.cons (.tmp rfl (.d _)) .nil), ?_⟩
    first
      | (have hu : dur t = false := by
          unfold dur; simp only [h1, Bool.true_or, Bool.false_or, Bool.or_true, Bool.or_false, Bool.not_true, Bool.not_false, cond_true, cond_false, Bool.true_and, Bool.false_and, Bool.and_true, Bool.and_false] <;> rfl
         rw [hu]; rfl)
      | (exfalso; omega)
  · skip
    have h3 := t_dec h1
    refine rg_put (d := 6) (v := .d (.fl (.int .i64 t))) rfl (oy rfl rfl rfl h1 (op_move rfl rfl rfl)) ?_
    refine rg_put (d := 7) (v := .d (.fl (.bool ((decide (t ≤ 68719476736)))))) rfl (oy rfl rfl rfl h1 (op_bin rfl rfl rfl (b_leq _ _ _ _) rfl)) ?_
    refine rg_put (d := 8) (v := .d (.fl (.bool ((decide (t ≤ 68719476736)))))) rfl (og rfl (op_pick rfl rfl (by rw [h1]; rfl) rfl)) ?_
    refine rg_put (d := 2) (v := .d (.fl (.bool ((decide (t ≤ 68719476736)))))) rfl (og rfl (op_assign rfl rfl rfl)) ?_
    refine rg_done rfl ?_
    refine a_ret ?_
    show ∃ ds, ResL _ _ _ ds ∧ RV.of ds = _
    refine ⟨[.fl (.bool ((decide (t ≤ 68719476736))))], (.cons (.tmp rfl (.d _)) .nil), ?_⟩
    first
      | (have hu : dur t = (decide (t ≤ 68719476736)) := by
          unfold dur; simp only [h1, Bool.true_or, Bool.false_or, Bool.or_true, Bool.or_false, Bool.not_true, Bool.not_false, cond_true, cond_false, Bool.true_and, Bool.false_and, Bool.and_true, Bool.and_false] <;> rfl
         rw [hu]; rfl)
      | (exfalso; omega)
set_option maxHeartbeats 4000000 in
set_option maxRecDepth 100000 in
theorem stp21 (l : List Stp) (hl : l.length ≤ 9223372036854775807) : Ctr Try.prog 34 [.sl 3 (List.map eStp l)] (.d (.fl (.int .i64 (stC l)))) := by
  refine ctr (n := 60) (rs := #[.tmp 2]) (L := [(0, .d (.sl 3 (List.map eStp l)))]) Try.func34 rfl rfl rfl rfl rfl (fun w0 U0 => ?_)
  refine a_rseq ?_
  refine rg_put (d := 2) (v := .d (.fl (.int .i64 0))) rfl (og rfl (op_assign rfl rfl rfl)) ?_
  refine rg_done rfl ?_
  refine a_seq ?_
  refine a_rseq ?_
  refine rg_put (d := 6) (v := .d (.sl 3 (List.map eStp l))) rfl (og rfl (op_move rfl rfl rfl)) ?_
  refine rg_put (d := 7) (v := .d (.fl (.int .i64 (l.length : Int)))) rfl (og rfl (s_len rfl Try.underlying23 rfl rfl)) ?_
  refine rg_put (d := 8) (v := .d (.fl (.bool ((decide (16 < (l.length : Int))))))) rfl (og rfl (op_bin rfl rfl rfl (b_gtr _ _ _ _) rfl)) ?_
  refine rg_done rfl ?_
  refine a_cond rfl (fun h1 => ?_) (fun h1 => ?_)
  · skip
    have h2 := t_dec h1
    refine a_rseq ?_
    refine rg_put (d := 2) (v := .d (.fl (.int .i64 3))) rfl (og rfl (op_assign rfl rfl rfl)) ?_
    refine rg_done rfl ?_
    refine a_ret ?_
    show ∃ ds, ResL _ _ _ ds ∧ RV.of ds = _
    refine ⟨[.fl (.int .i64 3)], (.cons (.tmp rfl (.d _)) .nil), ?_⟩
    unfold stC; rw [if_pos (by omega)]; rfl
  · skip
    have h3 := f_dec h1
    refine a_skip ?_
    show A _ _ _ _ _ _ _
    refine a_seq ?_
    refine a_rseq ?_
    refine rg_put (d := 9) (v := .d (.sl 3 (List.map eStp l))) rfl (og rfl (op_move rfl rfl rfl)) ?_
    refine rg_put (d := 10) (v := .d (.fl (.int .i64 (l.length : Int)))) rfl (og rfl (s_len rfl Try.underlying23 rfl rfl)) ?_
    refine rg_put (d := 11) (v := .d (.fl (.bool (((l.length : Int) == 0))))) rfl (og rfl (op_bin rfl rfl rfl (b_eql _ _ _ _) rfl)) ?_
    refine rg_done rfl ?_
    refine a_cond rfl (fun h4 => ?_) (fun h4 => ?_)
    · skip
      have h5 := t_beq h4
      refine a_rseq ?_
      refine rg_put (d := 2) (v := .d (.fl (.int .i64 1))) rfl (og rfl (op_assign rfl rfl rfl)) ?_
      refine rg_done rfl ?_
      refine a_ret ?_
      show ∃ ds, ResL _ _ _ ds ∧ RV.of ds = _
      refine ⟨[.fl (.int .i64 1)], (.cons (.tmp rfl (.d _)) .nil), ?_⟩
      unfold stC; rw [if_neg (by omega), if_pos (by omega)]; rfl
    · skip
      have h6 := f_beq h4
      refine a_skip ?_
      show A _ _ _ _ _ _ _
      refine a_rseq ?_
      refine rg_put (d := 3) (v := .d (.fl (.int .i64 0))) rfl (og rfl (op_assign rfl rfl rfl)) ?_
      refine rg_done rfl ?_
      refine a_seq ?_
      refine a_rseq ?_
      refine rg_put (d := 12) (v := .d (.sl 3 (List.map eStp l))) rfl (og rfl (op_move rfl rfl rfl)) ?_
      refine rg_put (d := 13) (v := .d (.fl (.int .i64 (l.length : Int)))) rfl (og rfl (s_len rfl Try.underlying23 rfl rfl)) ?_
      refine rg_put (d := 14) (v := .d (.fl (.int .i64 0))) rfl (og rfl (op_move rfl rfl rfl)) ?_
      refine rg_done rfl ?_
      refine a_block ?_
      refine a_loop (ι := Nat) (fun k => SS [(0, .d (.sl 3 (List.map eStp l))), (8, .d (.fl (.bool ((decide (16 < (l.length : Int))))))), (11, .d (.fl (.bool (((l.length : Int) == 0))))), (12, .d (.sl 3 (List.map eStp l))), (13, .d (.fl (.int .i64 (l.length : Int)))), (14, .d (.fl (.int .i64 (k : Int)))), (3, .d (.fl (.int .i64 (bef l k))))] []) (fun k => k ≤ l.length ∧ stE l = fe (st1 l) k (l.length - k)) (fun k => l.length - k) 0 (⟨by omega, rfl⟩) (imp_forget rfl ⟨rfl, rfl, rfl, rfl, rfl, (by first | rfl | exact ci (by omega) | exact ci (by simp) | exact cd (by simp) | simp), rfl, trivial⟩ trivial) (fun k hok => ?_)
      obtain ⟨hk, hc⟩ := hok
      refine a_rseq ?_
      refine rg_put (d := 15) (v := .d (.fl (.bool ((decide ((k : Int) < (l.length : Int))))))) rfl (og rfl (op_bin rfl rfl rfl (b_lss _ _ _ _) rfl)) ?_
      refine rg_done rfl ?_
      refine a_seq ?_
      refine a_cond rfl (fun h7 => ?_) (fun h7 => ?_)
      · skip
        have h8 := t_dec h7
        refine a_skip ?_
        show A _ _ _ _ _ _ _
        refine a_seq ?_
        refine a_block ?_
        refine a_rseq ?_
        refine rg_put (d := 16) (v := .d (.fl (.int .i64 (k : Int)))) rfl (og rfl (op_move rfl rfl rfl)) ?_
        refine rg_put (d := 17) (v := .el ((eStp (ix l k)))) rfl (og rfl (s_index rfl Try.underlying23 ti50 rfl rfl (by omega) (row_at (by omega)) rfl)) ?_
        refine rg_put (d := 18) (v := .d (.ag (eStp (ix l k)))) rfl (og rfl (of_eff (s_load_els rfl Try.underlying50 rfl ti50 rfl rfl rfl) rfl)) ?_
        refine rg_nam (d := 5) (v := .pt 101 0) (m := 101) (nw := [(101, .bx 50 [.fl (.int .i64 0), .fl (.int .i64 0), .fl (.int .i64 0)])]) rfl (og rfl (of_eff (s_alloc 101 rfl ti50 (by kernel_rfl) rfl) rfl)) rfl ?_
        refine rg_put (d := 4) (v := .d (.fl (.int .i64 (k : Int)))) rfl (og rfl (op_assign rfl rfl rfl)) ?_
        refine rg_sto (nw := [(101, .bx 50 ((eStp (ix l k))))]) rfl (og rfl (of_eff (s_store rfl rfl ti50 rfl rfl rfl rfl rfl rfl) rfl)) ?_
        refine rg_done rfl ?_
        refine a_seq ?_
        refine a_rseq ?_
        refine rg_put (d := 19) (v := .pt 101 1) rfl (og rfl (of_eff (s_field_pt rfl Try.underlying50 rfl ti3 rfl rfl rfl) rfl)) ?_
        refine rg_put (d := 20) (v := .d (.fl (.int .i64 ((ix l k).unit)))) rfl (og rfl (op_load_pt rfl Try.underlying3 rfl rfl rfl rfl rfl)) ?_
        refine rg_put (d := 21) (v := .d (.fl (.bool ((decide ((ix l k).unit < 1)))))) rfl (og rfl (op_bin rfl rfl rfl (b_lss _ _ _ _) rfl)) ?_
        refine rg_put (d := 22) (v := .d (.fl (.bool ((decide ((ix l k).unit < 1)))))) rfl (og rfl (op_move rfl rfl rfl)) ?_
        rcases fot ((decide ((ix l k).unit < 1))) with h9 | h9
        · skip
          have h10 := f_dec h9
          refine rg_put (d := 23) (v := .pt 101 1) rfl (oy rfl rfl rfl h9 (of_eff (s_field_pt rfl Try.underlying50 rfl ti3 rfl rfl rfl) rfl)) ?_
          refine rg_put (d := 24) (v := .d (.fl (.int .i64 ((ix l k).unit)))) rfl (oy rfl rfl rfl h9 (op_load_pt rfl Try.underlying3 rfl rfl rfl rfl rfl)) ?_
          refine rg_put (d := 25) (v := .d (.fl (.bool ((decide (68719476736 < (ix l k).unit)))))) rfl (oy rfl rfl rfl h9 (op_bin rfl rfl rfl (b_gtr _ _ _ _) rfl)) ?_
          refine rg_put (d := 26) (v := .d (.fl (.bool ((decide (68719476736 < (ix l k).unit)))))) rfl (og rfl (op_pick rfl rfl (by rw [h9]; rfl) rfl)) ?_
          refine rg_put (d := 27) (v := .d (.fl (.bool ((decide (68719476736 < (ix l k).unit)))))) rfl (og rfl (op_move rfl rfl rfl)) ?_
          rcases fot ((decide (68719476736 < (ix l k).unit))) with h11 | h11
          · skip
            have h12 := f_dec h11
            refine rg_put (d := 28) (v := .pt 101 2) rfl (oy rfl rfl rfl h11 (of_eff (s_field_pt rfl Try.underlying50 rfl ti3 rfl rfl rfl) rfl)) ?_
            refine rg_put (d := 29) (v := .d (.fl (.int .i64 ((ix l k).cents)))) rfl (oy rfl rfl rfl h11 (op_load_pt rfl Try.underlying3 rfl rfl rfl rfl rfl)) ?_
            refine rg_put (d := 30) (v := .d (.fl (.bool ((decide ((ix l k).cents < 0)))))) rfl (oy rfl rfl rfl h11 (op_bin rfl rfl rfl (b_lss _ _ _ _) rfl)) ?_
            refine rg_put (d := 31) (v := .d (.fl (.bool ((decide ((ix l k).cents < 0)))))) rfl (og rfl (op_pick rfl rfl (by rw [h11]; rfl) rfl)) ?_
            refine rg_put (d := 32) (v := .d (.fl (.bool ((decide ((ix l k).cents < 0)))))) rfl (og rfl (op_move rfl rfl rfl)) ?_
            rcases fot ((decide ((ix l k).cents < 0))) with h13 | h13
            · skip
              have h14 := f_dec h13
              refine rg_put (d := 33) (v := .pt 101 2) rfl (oy rfl rfl rfl h13 (of_eff (s_field_pt rfl Try.underlying50 rfl ti3 rfl rfl rfl) rfl)) ?_
              refine rg_put (d := 34) (v := .d (.fl (.int .i64 ((ix l k).cents)))) rfl (oy rfl rfl rfl h13 (op_load_pt rfl Try.underlying3 rfl rfl rfl rfl rfl)) ?_
              refine rg_put (d := 35) (v := .d (.fl (.bool ((decide (2147483648 < (ix l k).cents)))))) rfl (oy rfl rfl rfl h13 (op_bin rfl rfl rfl (b_gtr _ _ _ _) rfl)) ?_
              refine rg_put (d := 36) (v := .d (.fl (.bool ((decide (2147483648 < (ix l k).cents)))))) rfl (og rfl (op_pick rfl rfl (by rw [h13]; rfl) rfl)) ?_
              refine rg_done rfl ?_
              refine a_cond rfl (fun h15 => ?_) (fun h15 => ?_)
              · skip
                have h16 := t_dec h15
                refine a_rseq ?_
                refine rg_put (d := 2) (v := .d (.fl (.int .i64 1))) rfl (og rfl (op_assign rfl rfl rfl)) ?_
                refine rg_done rfl ?_
                refine a_ret ?_
                show ∃ ds, ResL _ _ _ ds ∧ RV.of ds = _
                refine ⟨[.fl (.int .i64 1)], (.cons (.tmp rfl (.d _)) .nil), ?_⟩
                have hsbad : sbad (ix l k) = true := by unfold sbad; simp only [h1, h4, h7, h9, h11, h13, h15, Bool.true_or, Bool.false_or, Bool.or_true, Bool.or_false, Bool.not_true, Bool.not_false, cond_true, cond_false, Bool.true_and, Bool.false_and, Bool.and_true, Bool.and_false] <;> rfl
                have hb : st1 l k = 1 := st_bad hsbad
                unfold stC; rw [if_neg (by omega), if_neg (by omega), fe_yes (by omega) hc hb (by decide)]; rfl
              · skip
                have h17 := f_dec h15
                refine a_skip ?_
                show A _ _ _ _ _ _ _
                refine a_seq ?_
                refine a_rseq ?_
                refine rg_put (d := 37) (v := .d (.fl (.int .i64 (k : Int)))) rfl (og rfl (op_move rfl rfl rfl)) ?_
                refine rg_put (d := 38) (v := .d (.sl 3 (List.map eStp l))) rfl (og rfl (op_move rfl rfl rfl)) ?_
                refine rg_put (d := 39) (v := .d (.fl (.int .i64 (l.length : Int)))) rfl (og rfl (s_len rfl Try.underlying23 rfl rfl)) ?_
                refine rg_put (d := 40) (v := .d (.fl (.int .i64 (((l.length : Int) - 1))))) rfl (og rfl (op_bin rfl rfl rfl (fun x y w => b_sub64 _ _ _ x y w (by omega)) rfl)) ?_
                refine rg_put (d := 41) (v := .d (.fl (.bool (((k : Int) == ((l.length : Int) - 1)))))) rfl (og rfl (op_bin rfl rfl rfl (b_eql _ _ _ _) rfl)) ?_
                refine rg_done rfl ?_
                refine a_cond rfl (fun h18 => ?_) (fun h18 => ?_)
                · skip
                  have h19 := t_beq h18
                  refine a_seq ?_
                  refine a_rseq ?_
                  refine rg_put (d := 42) (v := .pt 101 0) rfl (og rfl (of_eff (s_field_pt rfl Try.underlying50 rfl ti3 rfl rfl rfl) rfl)) ?_
                  refine rg_put (d := 43) (v := .d (.fl (.int .i64 ((ix l k).upto)))) rfl (og rfl (op_load_pt rfl Try.underlying3 rfl rfl rfl rfl rfl)) ?_
                  refine rg_put (d := 44) (v := .d (.fl (.bool (((ix l k).upto != 0))))) rfl (og rfl (op_bin rfl rfl rfl (b_neq _ _ _ _) rfl)) ?_
                  refine rg_done rfl ?_
                  refine a_cond rfl (fun h20 => ?_) (fun h20 => ?_)
                  · skip
                    have h21 := t_bne h20
                    refine a_rseq ?_
                    refine rg_put (d := 2) (v := .d (.fl (.int .i64 12))) rfl (og rfl (op_assign rfl rfl rfl)) ?_
                    refine rg_done rfl ?_
                    refine a_ret ?_
                    show ∃ ds, ResL _ _ _ ds ∧ RV.of ds = _
                    refine ⟨[.fl (.int .i64 12)], (.cons (.tmp rfl (.d _)) .nil), ?_⟩
                    have hsbad : sbad (ix l k) = false := by unfold sbad; simp only [h1, h4, h7, h9, h11, h13, h15, h18, h20, Bool.true_or, Bool.false_or, Bool.or_true, Bool.or_false, Bool.not_true, Bool.not_false, cond_true, cond_false, Bool.true_and, Bool.false_and, Bool.and_true, Bool.and_false] <;> rfl
                    have hb : st1 l k = 12 := st_l1 hsbad (by omega) (t_bne h20)
                    unfold stC; rw [if_neg (by omega), if_neg (by omega), fe_yes (by omega) hc hb (by decide)]; rfl
                  · skip
                    have h22 := f_bne h20
                    refine a_skip ?_
                    show A _ _ _ _ _ _ _
                    refine a_exit ?_
                    show A _ _ _ _ _ _ _
                    refine a_region ?_
                    refine rg_put (d := 59) (v := .d (.fl (.int .i64 (((k : Int) + 1))))) rfl (og rfl (op_bin rfl rfl rfl (fun x y w => b_add64 _ _ _ x y w (by omega)) rfl)) ?_
                    refine rg_put (d := 14) (v := .d (.fl (.int .i64 (((k : Int) + 1))))) rfl (og rfl (op_move rfl rfl rfl)) ?_
                    refine rg_done rfl ?_
                    have hsbad : sbad (ix l k) = false := by unfold sbad; simp only [h1, h4, h7, h9, h11, h13, h15, h18, h20, Bool.true_or, Bool.false_or, Bool.or_true, Bool.or_false, Bool.not_true, Bool.not_false, cond_true, cond_false, Bool.true_and, Bool.false_and, Bool.and_true, Bool.and_false] <;> rfl
                    have hb : st1 l k = 0 := st_l0 hsbad (by omega) (f_bne h20)
                    show ∃ i, _ ∧ _ ∧ Imp _ _ _ _ _
                    refine ⟨k + 1, ⟨by omega, fe_no (by omega) hc hb⟩, by omega, imp_forget rfl ⟨rfl, rfl, rfl, rfl, rfl, (by first | rfl | exact ci (by omega) | exact ci (by simp) | exact cd (by simp) | simp), (congrArg (fun z => AV.d (.fl (.int .i64 z))) (bef_l (by omega))), trivial⟩ trivial⟩
                · skip
                  have h23 := f_beq h18
                  refine a_skip ?_
                  show A _ _ _ _ _ _ _
                  refine a_seq ?_
                  refine a_rseq ?_
                  refine rg_put (d := 45) (v := .pt 101 0) rfl (og rfl (of_eff (s_field_pt rfl Try.underlying50 rfl ti3 rfl rfl rfl) rfl)) ?_
                  refine rg_put (d := 46) (v := .d (.fl (.int .i64 ((ix l k).upto)))) rfl (og rfl (op_load_pt rfl Try.underlying3 rfl rfl rfl rfl rfl)) ?_
                  refine rg_put (d := 47) (v := .d (.fl (.bool ((decide ((ix l k).upto < 1)))))) rfl (og rfl (op_bin rfl rfl rfl (b_lss _ _ _ _) rfl)) ?_
                  refine rg_put (d := 48) (v := .d (.fl (.bool ((decide ((ix l k).upto < 1)))))) rfl (og rfl (op_move rfl rfl rfl)) ?_
                  rcases fot ((decide ((ix l k).upto < 1))) with h24 | h24
                  · skip
                    have h25 := f_dec h24
                    refine rg_put (d := 49) (v := .pt 101 0) rfl (oy rfl rfl rfl h24 (of_eff (s_field_pt rfl Try.underlying50 rfl ti3 rfl rfl rfl) rfl)) ?_
                    refine rg_put (d := 50) (v := .d (.fl (.int .i64 ((ix l k).upto)))) rfl (oy rfl rfl rfl h24 (op_load_pt rfl Try.underlying3 rfl rfl rfl rfl rfl)) ?_
                    refine rg_put (d := 51) (v := .d (.fl (.bool ((decide (68719476736 < (ix l k).upto)))))) rfl (oy rfl rfl rfl h24 (op_bin rfl rfl rfl (b_gtr _ _ _ _) rfl)) ?_
                    refine rg_put (d := 52) (v := .d (.fl (.bool ((decide (68719476736 < (ix l k).upto)))))) rfl (og rfl (op_pick rfl rfl (by rw [h24]; rfl) rfl)) ?_
                    refine rg_done rfl ?_
                    refine a_cond rfl (fun h26 => ?_) (fun h26 => ?_)
                    · skip
                      have h27 := t_dec h26
                      refine a_rseq ?_
                      refine rg_put (d := 2) (v := .d (.fl (.int .i64 12))) rfl (og rfl (op_assign rfl rfl rfl)) ?_
                      refine rg_done rfl ?_
                      refine a_ret ?_
                      show ∃ ds, ResL _ _ _ ds ∧ RV.of ds = _
                      refine ⟨[.fl (.int .i64 12)], (.cons (.tmp rfl (.d _)) .nil), ?_⟩
                      have hsbad : sbad (ix l k) = false := by unfold sbad; simp only [h1, h4, h7, h9, h11, h13, h15, h18, h24, h26, Bool.true_or, Bool.false_or, Bool.or_true, Bool.or_false, Bool.not_true, Bool.not_false, cond_true, cond_false, Bool.true_and, Bool.false_and, Bool.and_true, Bool.and_false] <;> rfl
                      have hubad : ubad (ix l k) = true := by unfold ubad; simp only [h1, h4, h7, h9, h11, h13, h15, h18, h24, h26, Bool.true_or, Bool.false_or, Bool.or_true, Bool.or_false, Bool.not_true, Bool.not_false, cond_true, cond_false, Bool.true_and, Bool.false_and, Bool.and_true, Bool.and_false] <;> rfl
                      have hb : st1 l k = 12 := st_u hsbad (by omega) hubad
                      unfold stC; rw [if_neg (by omega), if_neg (by omega), fe_yes (by omega) hc hb (by decide)]; rfl
                    · skip
                      have h28 := f_dec h26
                      refine a_skip ?_
                      show A _ _ _ _ _ _ _
                      refine a_seq ?_
                      refine a_rseq ?_
                      refine rg_put (d := 53) (v := .pt 101 0) rfl (og rfl (of_eff (s_field_pt rfl Try.underlying50 rfl ti3 rfl rfl rfl) rfl)) ?_
                      refine rg_put (d := 54) (v := .d (.fl (.int .i64 ((ix l k).upto)))) rfl (og rfl (op_load_pt rfl Try.underlying3 rfl rfl rfl rfl rfl)) ?_
                      refine rg_put (d := 55) (v := .d (.fl (.int .i64 (bef l k)))) rfl (og rfl (op_move rfl rfl rfl)) ?_
                      refine rg_put (d := 56) (v := .d (.fl (.bool ((decide ((ix l k).upto ≤ (bef l k))))))) rfl (og rfl (op_bin rfl rfl rfl (b_leq _ _ _ _) rfl)) ?_
                      refine rg_done rfl ?_
                      refine a_cond rfl (fun h29 => ?_) (fun h29 => ?_)
                      · skip
                        have h30 := t_dec h29
                        refine a_rseq ?_
                        refine rg_put (d := 2) (v := .d (.fl (.int .i64 15))) rfl (og rfl (op_assign rfl rfl rfl)) ?_
                        refine rg_done rfl ?_
                        refine a_ret ?_
                        show ∃ ds, ResL _ _ _ ds ∧ RV.of ds = _
                        refine ⟨[.fl (.int .i64 15)], (.cons (.tmp rfl (.d _)) .nil), ?_⟩
                        have hsbad : sbad (ix l k) = false := by unfold sbad; simp only [h1, h4, h7, h9, h11, h13, h15, h18, h24, h26, h29, Bool.true_or, Bool.false_or, Bool.or_true, Bool.or_false, Bool.not_true, Bool.not_false, cond_true, cond_false, Bool.true_and, Bool.false_and, Bool.and_true, Bool.and_false] <;> rfl
                        have hubad : ubad (ix l k) = false := by unfold ubad; simp only [h1, h4, h7, h9, h11, h13, h15, h18, h24, h26, h29, Bool.true_or, Bool.false_or, Bool.or_true, Bool.or_false, Bool.not_true, Bool.not_false, cond_true, cond_false, Bool.true_and, Bool.false_and, Bool.and_true, Bool.and_false] <;> rfl
                        have hb : st1 l k = 15 := st_o hsbad (by omega) hubad (by have h0 : 0 < k := (by rcases Nat.eq_zero_or_pos k with h0 | h0; (subst h0; have := bef_0 l; omega); exact h0); have := bef_v (l := l) (k := k) (by omega) h0; omega)
                        unfold stC; rw [if_neg (by omega), if_neg (by omega), fe_yes (by omega) hc hb (by decide)]; rfl
                      · skip
                        have h31 := f_dec h29
                        refine a_skip ?_
                        show A _ _ _ _ _ _ _
                        refine a_region ?_
                        refine rg_put (d := 57) (v := .pt 101 0) rfl (og rfl (of_eff (s_field_pt rfl Try.underlying50 rfl ti3 rfl rfl rfl) rfl)) ?_
                        refine rg_put (d := 58) (v := .d (.fl (.int .i64 ((ix l k).upto)))) rfl (og rfl (op_load_pt rfl Try.underlying3 rfl rfl rfl rfl rfl)) ?_
                        refine rg_put (d := 3) (v := .d (.fl (.int .i64 ((ix l k).upto)))) rfl (og rfl (op_assign rfl rfl rfl)) ?_
                        refine rg_done rfl ?_
                        show A _ _ _ _ _ _ _
                        refine a_region ?_
                        refine rg_put (d := 59) (v := .d (.fl (.int .i64 (((k : Int) + 1))))) rfl (og rfl (op_bin rfl rfl rfl (fun x y w => b_add64 _ _ _ x y w (by omega)) rfl)) ?_
                        refine rg_put (d := 14) (v := .d (.fl (.int .i64 (((k : Int) + 1))))) rfl (og rfl (op_move rfl rfl rfl)) ?_
                        refine rg_done rfl ?_
                        have hsbad : sbad (ix l k) = false := by unfold sbad; simp only [h1, h4, h7, h9, h11, h13, h15, h18, h24, h26, h29, Bool.true_or, Bool.false_or, Bool.or_true, Bool.or_false, Bool.not_true, Bool.not_false, cond_true, cond_false, Bool.true_and, Bool.false_and, Bool.and_true, Bool.and_false] <;> rfl
                        have hubad : ubad (ix l k) = false := by unfold ubad; simp only [h1, h4, h7, h9, h11, h13, h15, h18, h24, h26, h29, Bool.true_or, Bool.false_or, Bool.or_true, Bool.or_false, Bool.not_true, Bool.not_false, cond_true, cond_false, Bool.true_and, Bool.false_and, Bool.and_true, Bool.and_false] <;> rfl
                        have hb : st1 l k = 0 := st_0 hsbad (by omega) hubad (fun h => by have := bef_v (l := l) (k := k) (by omega) h.1; omega)
                        show ∃ i, _ ∧ _ ∧ Imp _ _ _ _ _
                        refine ⟨k + 1, ⟨by omega, fe_no (by omega) hc hb⟩, by omega, imp_forget rfl ⟨rfl, rfl, rfl, rfl, rfl, (by first | rfl | exact ci (by omega) | exact ci (by simp) | exact cd (by simp) | simp), (congrArg (fun z => AV.d (.fl (.int .i64 z))) (bef_s (by omega))), trivial⟩ trivial⟩
                  · skip
                    have h32 := t_dec h24
                    refine rg_put (d := 49) (v := .d (.fl undef)) rfl (on rfl rfl rfl h24) ?_
                    refine rg_put (d := 50) (v := .d (.fl undef)) rfl (on rfl rfl rfl h24) ?_
                    refine rg_put (d := 51) (v := .d (.fl undef)) rfl (on rfl rfl rfl h24) ?_
                    refine rg_put (d := 52) (v := .d (.fl (.bool true))) rfl (og rfl (op_pick rfl rfl (by rw [h24]; rfl) rfl)) ?_
                    refine rg_done rfl ?_
                    refine a_condK rfl rfl ?_
                    refine a_rseq ?_
                    refine rg_put (d := 2) (v := .d (.fl (.int .i64 12))) rfl (og rfl (op_assign rfl rfl rfl)) ?_
                    refine rg_done rfl ?_
                    refine a_ret ?_
                    show ∃ ds, ResL _ _ _ ds ∧ RV.of ds = _
                    refine ⟨[.fl (.int .i64 12)], (.cons (.tmp rfl (.d _)) .nil), ?_⟩
                    have hsbad : sbad (ix l k) = false := by unfold sbad; simp only [h1, h4, h7, h9, h11, h13, h15, h18, h24, Bool.true_or, Bool.false_or, Bool.or_true, Bool.or_false, Bool.not_true, Bool.not_false, cond_true, cond_false, Bool.true_and, Bool.false_and, Bool.and_true, Bool.and_false] <;> rfl
                    have hubad : ubad (ix l k) = true := by unfold ubad; simp only [h1, h4, h7, h9, h11, h13, h15, h18, h24, Bool.true_or, Bool.false_or, Bool.or_true, Bool.or_false, Bool.not_true, Bool.not_false, cond_true, cond_false, Bool.true_and, Bool.false_and, Bool.and_true, Bool.and_false] <;> rfl
                    have hb : st1 l k = 12 := st_u hsbad (by omega) hubad
                    unfold stC; rw [if_neg (by omega), if_neg (by omega), fe_yes (by omega) hc hb (by decide)]; rfl
            · skip
              have h33 := t_dec h13
              refine rg_put (d := 33) (v := .d (.fl undef)) rfl (on rfl rfl rfl h13) ?_
              refine rg_put (d := 34) (v := .d (.fl undef)) rfl (on rfl rfl rfl h13) ?_
              refine rg_put (d := 35) (v := .d (.fl undef)) rfl (on rfl rfl rfl h13) ?_
              refine rg_put (d := 36) (v := .d (.fl (.bool true))) rfl (og rfl (op_pick rfl rfl (by rw [h13]; rfl) rfl)) ?_
              refine rg_done rfl ?_
              refine a_condK rfl rfl ?_
              refine a_rseq ?_
              refine rg_put (d := 2) (v := .d (.fl (.int .i64 1))) rfl (og rfl (op_assign rfl rfl rfl)) ?_
              refine rg_done rfl ?_
              refine a_ret ?_
              show ∃ ds, ResL _ _ _ ds ∧ RV.of ds = _
              refine ⟨[.fl (.int .i64 1)], (.cons (.tmp rfl (.d _)) .nil), ?_⟩
              have hsbad : sbad (ix l k) = true := by unfold sbad; simp only [h1, h4, h7, h9, h11, h13, Bool.true_or, Bool.false_or, Bool.or_true, Bool.or_false, Bool.not_true, Bool.not_false, cond_true, cond_false, Bool.true_and, Bool.false_and, Bool.and_true, Bool.and_false] <;> rfl
              have hb : st1 l k = 1 := st_bad hsbad
              unfold stC; rw [if_neg (by omega), if_neg (by omega), fe_yes (by omega) hc hb (by decide)]; rfl
          · skip
            have h34 := t_dec h11
            refine rg_put (d := 28) (v := .d (.fl undef)) rfl (on rfl rfl rfl h11) ?_
            refine rg_put (d := 29) (v := .d (.fl undef)) rfl (on rfl rfl rfl h11) ?_
            refine rg_put (d := 30) (v := .d (.fl undef)) rfl (on rfl rfl rfl h11) ?_
            refine rg_put (d := 31) (v := .d (.fl (.bool true))) rfl (og rfl (op_pick rfl rfl (by rw [h11]; rfl) rfl)) ?_
            refine rg_put (d := 32) (v := .d (.fl (.bool true))) rfl (og rfl (op_move rfl rfl rfl)) ?_
            refine rg_put (d := 33) (v := .d (.fl undef)) rfl (on rfl rfl rfl rfl) ?_
            refine rg_put (d := 34) (v := .d (.fl undef)) rfl (on rfl rfl rfl rfl) ?_
            refine rg_put (d := 35) (v := .d (.fl undef)) rfl (on rfl rfl rfl rfl) ?_
            refine rg_put (d := 36) (v := .d (.fl (.bool true))) rfl (og rfl (op_pick rfl rfl rfl rfl)) ?_
            refine rg_done rfl ?_
            refine a_condK rfl rfl ?_
            refine a_rseq ?_
            refine rg_put (d := 2) (v := .d (.fl (.int .i64 1))) rfl (og rfl (op_assign rfl rfl rfl)) ?_
            refine rg_done rfl ?_
            refine a_ret ?_
            show ∃ ds, ResL _ _ _ ds ∧ RV.of ds = _
            refine ⟨[.fl (.int .i64 1)], (.cons (.tmp rfl (.d _)) .nil), ?_⟩
            have hsbad : sbad (ix l k) = true := by unfold sbad; simp only [h1, h4, h7, h9, h11, Bool.true_or, Bool.false_or, Bool.or_true, Bool.or_false, Bool.not_true, Bool.not_false, cond_true, cond_false, Bool.true_and, Bool.false_and, Bool.and_true, Bool.and_false] <;> rfl
            have hb : st1 l k = 1 := st_bad hsbad
            unfold stC; rw [if_neg (by omega), if_neg (by omega), fe_yes (by omega) hc hb (by decide)]; rfl
        · skip
          have h35 := t_dec h9
          refine rg_put (d := 23) (v := .d (.fl undef)) rfl (on rfl rfl rfl h9) ?_
          refine rg_put (d := 24) (v := .d (.fl undef)) rfl (on rfl rfl rfl h9) ?_
          refine rg_put (d := 25) (v := .d (.fl undef)) rfl (on rfl rfl rfl h9) ?_
          refine rg_put (d := 26) (v := .d (.fl (.bool true))) rfl (og rfl (op_pick rfl rfl (by rw [h9]; rfl) rfl)) ?_
          refine rg_put (d := 27) (v := .d (.fl (.bool true))) rfl (og rfl (op_move rfl rfl rfl)) ?_
          refine rg_put (d := 28) (v := .d (.fl undef)) rfl (on rfl rfl rfl rfl) ?_
          refine rg_put (d := 29) (v := .d (.fl undef)) rfl (on rfl rfl rfl rfl) ?_
          refine rg_put (d := 30) (v := .d (.fl undef)) rfl (on rfl rfl rfl rfl) ?_
          refine rg_put (d := 31) (v := .d (.fl (.bool true))) rfl (og rfl (op_pick rfl rfl rfl rfl)) ?_
          refine rg_put (d := 32) (v := .d (.fl (.bool true))) rfl (og rfl (op_move rfl rfl rfl)) ?_
          refine rg_put (d := 33) (v := .d (.fl undef)) rfl (on rfl rfl rfl rfl) ?_
          refine rg_put (d := 34) (v := .d (.fl undef)) rfl (on rfl rfl rfl rfl) ?_
          refine rg_put (d := 35) (v := .d (.fl undef)) rfl (on rfl rfl rfl rfl) ?_
          refine rg_put (d := 36) (v := .d (.fl (.bool true))) rfl (og rfl (op_pick rfl rfl rfl rfl)) ?_
          refine rg_done rfl ?_
          refine a_condK rfl rfl ?_
          refine a_rseq ?_
          refine rg_put (d := 2) (v := .d (.fl (.int .i64 1))) rfl (og rfl (op_assign rfl rfl rfl)) ?_
          refine rg_done rfl ?_
          refine a_ret ?_
          show ∃ ds, ResL _ _ _ ds ∧ RV.of ds = _
          refine ⟨[.fl (.int .i64 1)], (.cons (.tmp rfl (.d _)) .nil), ?_⟩
          have hsbad : sbad (ix l k) = true := by unfold sbad; simp only [h1, h4, h7, h9, Bool.true_or, Bool.false_or, Bool.or_true, Bool.or_false, Bool.not_true, Bool.not_false, cond_true, cond_false, Bool.true_and, Bool.false_and, Bool.and_true, Bool.and_false] <;> rfl
          have hb : st1 l k = 1 := st_bad hsbad
          unfold stC; rw [if_neg (by omega), if_neg (by omega), fe_yes (by omega) hc hb (by decide)]; rfl
      · skip
        have h36 := f_dec h7
        refine a_exit ?_
        show A _ _ _ _ _ _ _
        refine a_rseq ?_
        refine rg_put (d := 2) (v := .d (.fl (.int .i64 0))) rfl (og rfl (op_assign rfl rfl rfl)) ?_
        refine rg_done rfl ?_
        refine a_ret ?_
        show ∃ ds, ResL _ _ _ ds ∧ RV.of ds = _
        refine ⟨[.fl (.int .i64 0)], (.cons (.tmp rfl (.d _)) .nil), ?_⟩
        rw [fe_end (by omega)] at hc
        unfold stC; rw [if_neg (by omega), if_neg (by omega), hc]; rfl

set_option maxHeartbeats 4000000 in
set_option maxRecDepth 100000 in
theorem zck8 (z : Zn) (hh : z.hours.length ≤ 60) (hs : z.steps.length ≤ 40) : Ctr Try.prog 20 [.ag (eZn z)] (.d (.fl (.int .i64 (zck z)))) := by
  refine ctr (n := 55) (rs := #[.tmp 2]) (L := [(0, .d (.ag (eZn z)))]) Try.func20 rfl rfl rfl rfl rfl (fun w0 U0 => ?_)
  refine a_rseq ?_
  refine rg_nam (d := 1) (v := .pt 101 0) (m := 101) (nw := [(101, .bx 25 (eZn z))]) rfl (og rfl (of_eff (op_box 101 rfl rfl rfl rfl) rfl)) rfl ?_
  refine rg_put (d := 2) (v := .d (.fl (.int .i64 0))) rfl (og rfl (op_assign rfl rfl rfl)) ?_
  refine rg_done rfl ?_
  refine a_seq ?_
  refine a_rseq ?_
  refine rg_put (d := 6) (v := .pt 101 0) rfl (og rfl (of_eff (s_field_pt rfl Try.underlying25 rfl ti9 rfl rfl rfl) rfl)) ?_
  refine rg_put (d := 7) (v := .d (.fl (.string z.name))) rfl (og rfl (op_load_pt rfl Try.underlying9 rfl rfl rfl rfl rfl)) ?_
  refine rg_put (d := 8) (v := .d (.fl (.bool (Nm.nmB z.name)))) rfl (og rfl (op_call rfl Try.func32 nm32 rfl (.cons rfl (.d _) .nil) (nam14 z.name) rfl)) ?_
  refine rg_put (d := 9) (v := .d (.fl (.bool ((!(Nm.nmB z.name)))))) rfl (og rfl (op_un rfl rfl (u_not _) rfl)) ?_
  refine rg_done rfl ?_
  refine a_cond rfl (fun h1 => ?_) (fun h1 => ?_)
  · skip
    have h2 := t_not h1
    refine a_rseq ?_
    refine rg_put (d := 2) (v := .d (.fl (.int .i64 6))) rfl (og rfl (op_assign rfl rfl rfl)) ?_
    refine rg_done rfl ?_
    refine a_ret ?_
    show ∃ ds, ResL _ _ _ ds ∧ RV.of ds = _
    refine ⟨[.fl (.int .i64 6)], (.cons (.tmp rfl (.d _)) .nil), ?_⟩
    unfold zck; rw [if_pos h2]; rfl
  · skip
    have h3 := f_not h1
    refine a_skip ?_
    show A _ _ _ _ _ _ _
    refine a_seq ?_
    refine a_rseq ?_
    refine rg_put (d := 10) (v := .pt 101 1) rfl (og rfl (of_eff (s_field_pt rfl Try.underlying25 rfl ti22 rfl rfl rfl) rfl)) ?_
    refine rg_put (d := 11) (v := .d (.sl 3 (List.map eWd z.hours))) rfl (og rfl (op_load_pt rfl Try.underlying22 rfl rfl rfl rfl rfl)) ?_
    refine rg_put (d := 12) (v := .d (.fl (.int .i64 (z.hours.length : Int)))) rfl (og rfl (s_len rfl Try.underlying22 rfl rfl)) ?_
    refine rg_put (d := 13) (v := .d (.fl (.bool ((decide (32 < (z.hours.length : Int))))))) rfl (og rfl (op_bin rfl rfl rfl (b_gtr _ _ _ _) rfl)) ?_
    refine rg_done rfl ?_
    refine a_cond rfl (fun h4 => ?_) (fun h4 => ?_)
    · skip
      have h5 := t_dec h4
      refine a_rseq ?_
      refine rg_put (d := 2) (v := .d (.fl (.int .i64 3))) rfl (og rfl (op_assign rfl rfl rfl)) ?_
      refine rg_done rfl ?_
      refine a_ret ?_
      show ∃ ds, ResL _ _ _ ds ∧ RV.of ds = _
      refine ⟨[.fl (.int .i64 3)], (.cons (.tmp rfl (.d _)) .nil), ?_⟩
      unfold zck; rw [if_neg (by rw [h3]; decide), if_pos (by omega)]; rfl
    · skip
      have h6 := f_dec h4
      refine a_skip ?_
      show A _ _ _ _ _ _ _
      refine a_seq ?_
      refine a_rseq ?_
      refine rg_put (d := 14) (v := .pt 101 1) rfl (og rfl (of_eff (s_field_pt rfl Try.underlying25 rfl ti22 rfl rfl rfl) rfl)) ?_
      refine rg_put (d := 15) (v := .d (.sl 3 (List.map eWd z.hours))) rfl (og rfl (op_load_pt rfl Try.underlying22 rfl rfl rfl rfl rfl)) ?_
      refine rg_put (d := 16) (v := .d (.fl (.int .i64 (z.hours.length : Int)))) rfl (og rfl (s_len rfl Try.underlying22 rfl rfl)) ?_
      refine rg_put (d := 17) (v := .d (.fl (.int .i64 0))) rfl (og rfl (op_move rfl rfl rfl)) ?_
      refine rg_done rfl ?_
      refine a_block ?_
      refine a_loop (ι := Nat) (fun k => SS [(0, .d (.ag (eZn z))), (1, .pt 101 0), (9, .d (.fl (.bool ((!(Nm.nmB z.name)))))), (13, .d (.fl (.bool ((decide (32 < (z.hours.length : Int))))))), (15, .d (.sl 3 (List.map eWd z.hours))), (16, .d (.fl (.int .i64 (z.hours.length : Int)))), (17, .d (.fl (.int .i64 (k : Int))))] [(101, .bx 25 (eZn z))]) (fun k => k ≤ z.hours.length ∧ hrE z.hours = fe (hr1 z.hours) k (z.hours.length - k)) (fun k => z.hours.length - k) 0 (⟨by omega, rfl⟩) (imp_forget rfl ⟨rfl, rfl, rfl, rfl, rfl, rfl, (by first | rfl | exact ci (by omega) | exact ci (by simp) | exact cd (by simp) | simp), trivial⟩ ⟨rfl, trivial⟩) (fun k hok => ?_)
      obtain ⟨hk, hc⟩ := hok
      refine a_rseq ?_
      refine rg_put (d := 18) (v := .d (.fl (.bool ((decide ((k : Int) < (z.hours.length : Int))))))) rfl (og rfl (op_bin rfl rfl rfl (b_lss _ _ _ _) rfl)) ?_
      refine rg_done rfl ?_
      refine a_seq ?_
      refine a_cond rfl (fun h7 => ?_) (fun h7 => ?_)
      · skip
        have h8 := t_dec h7
        refine a_skip ?_
        show A _ _ _ _ _ _ _
        refine a_seq ?_
        refine a_block ?_
        refine a_rseq ?_
        refine rg_put (d := 19) (v := .el ((eWd (ix z.hours k)))) rfl (og rfl (s_index rfl Try.underlying22 ti48 rfl rfl (by omega) (row_at (by omega)) rfl)) ?_
        refine rg_put (d := 20) (v := .d (.ag (eWd (ix z.hours k)))) rfl (og rfl (of_eff (s_load_els rfl Try.underlying48 rfl ti48 rfl rfl rfl) rfl)) ?_
        refine rg_nam (d := 4) (v := .pt 102 0) (m := 102) (nw := [(102, .bx 48 [.fl (.int .i64 0), .fl (.int .i64 0), .fl (.int .i64 0)])]) rfl (og rfl (of_eff (s_alloc 102 rfl ti48 (by kernel_rfl) rfl) rfl)) rfl ?_
        refine rg_sto (nw := [(102, .bx 48 ((eWd (ix z.hours k))))]) rfl (og rfl (of_eff (s_store rfl rfl ti48 rfl rfl rfl rfl rfl rfl) rfl)) ?_
        refine rg_done rfl ?_
        refine a_rseq ?_
        refine rg_put (d := 21) (v := .d (.ag (eWd (ix z.hours k)))) rfl (og rfl (of_eff (s_load_pts rfl Try.underlying48 rfl ti48 rfl rfl rfl rfl) rfl)) ?_
        refine rg_put (d := 22) (v := .d (.fl (.bool ((vW (ix z.hours k)))))) rfl (og rfl (op_call rfl Try.func33 nm33 rfl (.cons rfl (.d _) .nil) (vW28 (ix z.hours k)) rfl)) ?_
        refine rg_put (d := 23) (v := .d (.fl (.bool ((!((vW (ix z.hours k)))))))) rfl (og rfl (op_un rfl rfl (u_not _) rfl)) ?_
        refine rg_done rfl ?_
        refine a_cond rfl (fun h9 => ?_) (fun h9 => ?_)
        · skip
          have h10 := t_not h9
          refine a_rseq ?_
          refine rg_put (d := 2) (v := .d (.fl (.int .i64 12))) rfl (og rfl (op_assign rfl rfl rfl)) ?_
          refine rg_done rfl ?_
          refine a_ret ?_
          show ∃ ds, ResL _ _ _ ds ∧ RV.of ds = _
          refine ⟨[.fl (.int .i64 12)], (.cons (.tmp rfl (.d _)) .nil), ?_⟩
          have hb : hr1 z.hours k = 12 := hr_n h10
          have he : hrE z.hours = 12 := fe_yes (by omega) hc hb (by decide)
          unfold zck; rw [if_neg (by rw [h3]; decide), if_neg (by omega), if_pos (by rw [he]; decide), he]; rfl
        · skip
          have h11 := f_not h9
          refine a_skip ?_
          show A _ _ _ _ _ _ _
          refine a_region ?_
          refine rg_put (d := 24) (v := .d (.fl (.int .i64 (((k : Int) + 1))))) rfl (og rfl (op_bin rfl rfl rfl (fun x y w => b_add64 _ _ _ x y w (by omega)) rfl)) ?_
          refine rg_put (d := 17) (v := .d (.fl (.int .i64 (((k : Int) + 1))))) rfl (og rfl (op_move rfl rfl rfl)) ?_
          refine rg_done rfl ?_
          have hb : hr1 z.hours k = 0 := hr_y h11
          show ∃ i, _ ∧ _ ∧ Imp _ _ _ _ _
          refine ⟨k + 1, ⟨by omega, fe_no (by omega) hc hb⟩, by omega, imp_forget rfl ⟨rfl, rfl, rfl, rfl, rfl, rfl, (by first | rfl | exact ci (by omega) | exact ci (by simp) | exact cd (by simp) | simp), trivial⟩ ⟨rfl, trivial⟩⟩
      · skip
        have h12 := f_dec h7
        refine a_exit ?_
        show A _ _ _ _ _ _ _
        refine a_seq ?_
        refine a_rseq ?_
        have hH : hrE z.hours = 0 := by rw [fe_end (by omega)] at hc; exact hc
        refine rg_put (d := 25) (v := .pt 101 2) rfl (og rfl (of_eff (s_field_pt rfl Try.underlying25 rfl ti23 rfl rfl rfl) rfl)) ?_
        refine rg_put (d := 26) (v := .d (.sl 3 (List.map eStp z.steps))) rfl (og rfl (op_load_pt rfl Try.underlying23 rfl rfl rfl rfl rfl)) ?_
        refine rg_put (d := 27) (v := .d (.fl (.int .i64 (stC z.steps)))) rfl (og rfl (op_call rfl Try.func34 nm34 rfl (.cons rfl (.d _) .nil) (stp21 z.steps (by omega)) rfl)) ?_
        refine rg_put (d := 5) (v := .d (.fl (.int .i64 (stC z.steps)))) rfl (og rfl (op_assign rfl rfl rfl)) ?_
        refine rg_done rfl ?_
        refine a_rseq ?_
        refine rg_put (d := 28) (v := .d (.fl (.int .i64 (stC z.steps)))) rfl (og rfl (op_move rfl rfl rfl)) ?_
        refine rg_put (d := 29) (v := .d (.fl (.bool (((stC z.steps) != 0))))) rfl (og rfl (op_bin rfl rfl rfl (b_neq _ _ _ _) rfl)) ?_
        refine rg_done rfl ?_
        refine a_cond rfl (fun h13 => ?_) (fun h13 => ?_)
        · skip
          have h14 := t_bne h13
          refine a_rseq ?_
          refine rg_put (d := 30) (v := .d (.fl (.int .i64 (stC z.steps)))) rfl (og rfl (op_move rfl rfl rfl)) ?_
          refine rg_put (d := 2) (v := .d (.fl (.int .i64 (stC z.steps)))) rfl (og rfl (op_assign rfl rfl rfl)) ?_
          refine rg_done rfl ?_
          refine a_ret ?_
          show ∃ ds, ResL _ _ _ ds ∧ RV.of ds = _
          refine ⟨[.fl (.int .i64 (stC z.steps))], (.cons (.tmp rfl (.d _)) .nil), ?_⟩
          unfold zck; rw [if_neg (by rw [h3]; decide), if_neg (by omega), if_neg (by rw [hH]; decide), if_pos (t_bne h13)]; rfl
        · skip
          have h15 := f_bne h13
          refine a_skip ?_
          show A _ _ _ _ _ _ _
          refine a_seq ?_
          refine a_rseq ?_
          refine rg_put (d := 31) (v := .pt 101 3) rfl (og rfl (of_eff (s_field_pt rfl Try.underlying25 rfl ti3 rfl rfl rfl) rfl)) ?_
          refine rg_put (d := 32) (v := .d (.fl (.int .i64 z.grace))) rfl (og rfl (op_load_pt rfl Try.underlying3 rfl rfl rfl rfl rfl)) ?_
          refine rg_put (d := 33) (v := .d (.fl (.bool (dur z.grace)))) rfl (og rfl (op_call rfl Try.func35 nm35 rfl (.cons rfl (.d _) .nil) (dur22 z.grace) rfl)) ?_
          refine rg_put (d := 34) (v := .d (.fl (.bool ((!(dur z.grace)))))) rfl (og rfl (op_un rfl rfl (u_not _) rfl)) ?_
          refine rg_put (d := 35) (v := .d (.fl (.bool ((!(dur z.grace)))))) rfl (og rfl (op_move rfl rfl rfl)) ?_
          rcases fot ((!(dur z.grace))) with h16 | h16
          · skip
            have h17 := f_not h16
            refine rg_put (d := 36) (v := .pt 101 4) rfl (oy rfl rfl rfl h16 (of_eff (s_field_pt rfl Try.underlying25 rfl ti3 rfl rfl rfl) rfl)) ?_
            refine rg_put (d := 37) (v := .d (.fl (.int .i64 z.free))) rfl (oy rfl rfl rfl h16 (op_load_pt rfl Try.underlying3 rfl rfl rfl rfl rfl)) ?_
            refine rg_put (d := 38) (v := .d (.fl (.bool (dur z.free)))) rfl (oy rfl rfl rfl h16 (op_call rfl Try.func35 nm35 rfl (.cons rfl (.d _) .nil) (dur22 z.free) rfl)) ?_
            refine rg_put (d := 39) (v := .d (.fl (.bool ((!(dur z.free)))))) rfl (oy rfl rfl rfl h16 (op_un rfl rfl (u_not _) rfl)) ?_
            refine rg_put (d := 40) (v := .d (.fl (.bool ((!(dur z.free)))))) rfl (og rfl (op_pick rfl rfl (by rw [h16]; rfl) rfl)) ?_
            refine rg_put (d := 41) (v := .d (.fl (.bool ((!(dur z.free)))))) rfl (og rfl (op_move rfl rfl rfl)) ?_
            rcases fot ((!(dur z.free))) with h18 | h18
            · skip
              have h19 := f_not h18
              refine rg_put (d := 42) (v := .pt 101 6) rfl (oy rfl rfl rfl h18 (of_eff (s_field_pt rfl Try.underlying25 rfl ti3 rfl rfl rfl) rfl)) ?_
              refine rg_put (d := 43) (v := .d (.fl (.int .i64 z.stay))) rfl (oy rfl rfl rfl h18 (op_load_pt rfl Try.underlying3 rfl rfl rfl rfl rfl)) ?_
              refine rg_put (d := 44) (v := .d (.fl (.bool (dur z.stay)))) rfl (oy rfl rfl rfl h18 (op_call rfl Try.func35 nm35 rfl (.cons rfl (.d _) .nil) (dur22 z.stay) rfl)) ?_
              refine rg_put (d := 45) (v := .d (.fl (.bool ((!(dur z.stay)))))) rfl (oy rfl rfl rfl h18 (op_un rfl rfl (u_not _) rfl)) ?_
              refine rg_put (d := 46) (v := .d (.fl (.bool ((!(dur z.stay)))))) rfl (og rfl (op_pick rfl rfl (by rw [h18]; rfl) rfl)) ?_
              refine rg_done rfl ?_
              refine a_cond rfl (fun h20 => ?_) (fun h20 => ?_)
              · skip
                have h21 := t_not h20
                refine a_rseq ?_
                refine rg_put (d := 2) (v := .d (.fl (.int .i64 12))) rfl (og rfl (op_assign rfl rfl rfl)) ?_
                refine rg_done rfl ?_
                refine a_ret ?_
                show ∃ ds, ResL _ _ _ ds ∧ RV.of ds = _
                refine ⟨[.fl (.int .i64 12)], (.cons (.tmp rfl (.d _)) .nil), ?_⟩
                unfold zck; rw [if_neg (by rw [h3]; decide), if_neg (by omega), if_neg (by rw [hH]; decide), if_neg (by rw [f_bne h13]; decide), if_pos (by simp only [h17, h19, h21, Bool.true_or, Bool.false_or, Bool.or_true, Bool.or_false, Bool.not_true, Bool.not_false, cond_true, cond_false, Bool.true_and, Bool.false_and, Bool.and_true, Bool.and_false] <;> rfl)]; rfl
              · skip
                have h22 := f_not h20
                refine a_skip ?_
                show A _ _ _ _ _ _ _
                refine a_seq ?_
                refine a_rseq ?_
                refine rg_put (d := 47) (v := .pt 101 5) rfl (og rfl (of_eff (s_field_pt rfl Try.underlying25 rfl ti3 rfl rfl rfl) rfl)) ?_
                refine rg_put (d := 48) (v := .d (.fl (.int .i64 z.dayMax))) rfl (og rfl (op_load_pt rfl Try.underlying3 rfl rfl rfl rfl rfl)) ?_
                refine rg_put (d := 49) (v := .d (.fl (.bool ((decide (z.dayMax < 0)))))) rfl (og rfl (op_bin rfl rfl rfl (b_lss _ _ _ _) rfl)) ?_
                refine rg_put (d := 50) (v := .d (.fl (.bool ((decide (z.dayMax < 0)))))) rfl (og rfl (op_move rfl rfl rfl)) ?_
                rcases fot ((decide (z.dayMax < 0))) with h23 | h23
                · skip
                  have h24 := f_dec h23
                  refine rg_put (d := 51) (v := .pt 101 5) rfl (oy rfl rfl rfl h23 (of_eff (s_field_pt rfl Try.underlying25 rfl ti3 rfl rfl rfl) rfl)) ?_
                  refine rg_put (d := 52) (v := .d (.fl (.int .i64 z.dayMax))) rfl (oy rfl rfl rfl h23 (op_load_pt rfl Try.underlying3 rfl rfl rfl rfl rfl)) ?_
                  refine rg_put (d := 53) (v := .d (.fl (.bool ((decide (1125899906842624 < z.dayMax)))))) rfl (oy rfl rfl rfl h23 (op_bin rfl rfl rfl (b_gtr _ _ _ _) rfl)) ?_
                  refine rg_put (d := 54) (v := .d (.fl (.bool ((decide (1125899906842624 < z.dayMax)))))) rfl (og rfl (op_pick rfl rfl (by rw [h23]; rfl) rfl)) ?_
                  refine rg_done rfl ?_
                  refine a_cond rfl (fun h25 => ?_) (fun h25 => ?_)
                  · skip
                    have h26 := t_dec h25
                    refine a_rseq ?_
                    refine rg_put (d := 2) (v := .d (.fl (.int .i64 13))) rfl (og rfl (op_assign rfl rfl rfl)) ?_
                    refine rg_done rfl ?_
                    refine a_ret ?_
                    show ∃ ds, ResL _ _ _ ds ∧ RV.of ds = _
                    refine ⟨[.fl (.int .i64 13)], (.cons (.tmp rfl (.d _)) .nil), ?_⟩
                    unfold zck; rw [if_neg (by rw [h3]; decide), if_neg (by omega), if_neg (by rw [hH]; decide), if_neg (by rw [f_bne h13]; decide), if_neg (by simp only [h17, h19, h22, Bool.true_or, Bool.false_or, Bool.or_true, Bool.or_false, Bool.not_true, Bool.not_false, cond_true, cond_false, Bool.true_and, Bool.false_and, Bool.and_true, Bool.and_false] <;> decide), if_pos (by omega)]; rfl
                  · skip
                    have h27 := f_dec h25
                    refine a_skip ?_
                    show A _ _ _ _ _ _ _
                    refine a_rseq ?_
                    refine rg_put (d := 2) (v := .d (.fl (.int .i64 0))) rfl (og rfl (op_assign rfl rfl rfl)) ?_
                    refine rg_done rfl ?_
                    refine a_ret ?_
                    show ∃ ds, ResL _ _ _ ds ∧ RV.of ds = _
                    refine ⟨[.fl (.int .i64 0)], (.cons (.tmp rfl (.d _)) .nil), ?_⟩
                    unfold zck; rw [if_neg (by rw [h3]; decide), if_neg (by omega), if_neg (by rw [hH]; decide), if_neg (by rw [f_bne h13]; decide), if_neg (by simp only [h17, h19, h22, Bool.true_or, Bool.false_or, Bool.or_true, Bool.or_false, Bool.not_true, Bool.not_false, cond_true, cond_false, Bool.true_and, Bool.false_and, Bool.and_true, Bool.and_false] <;> decide), if_neg (by omega)]; rfl
                · skip
                  have h28 := t_dec h23
                  refine rg_put (d := 51) (v := .d (.fl undef)) rfl (on rfl rfl rfl h23) ?_
                  refine rg_put (d := 52) (v := .d (.fl undef)) rfl (on rfl rfl rfl h23) ?_
                  refine rg_put (d := 53) (v := .d (.fl undef)) rfl (on rfl rfl rfl h23) ?_
                  refine rg_put (d := 54) (v := .d (.fl (.bool true))) rfl (og rfl (op_pick rfl rfl (by rw [h23]; rfl) rfl)) ?_
                  refine rg_done rfl ?_
                  refine a_condK rfl rfl ?_
                  refine a_rseq ?_
                  refine rg_put (d := 2) (v := .d (.fl (.int .i64 13))) rfl (og rfl (op_assign rfl rfl rfl)) ?_
                  refine rg_done rfl ?_
                  refine a_ret ?_
                  show ∃ ds, ResL _ _ _ ds ∧ RV.of ds = _
                  refine ⟨[.fl (.int .i64 13)], (.cons (.tmp rfl (.d _)) .nil), ?_⟩
                  unfold zck; rw [if_neg (by rw [h3]; decide), if_neg (by omega), if_neg (by rw [hH]; decide), if_neg (by rw [f_bne h13]; decide), if_neg (by simp only [h17, h19, h22, Bool.true_or, Bool.false_or, Bool.or_true, Bool.or_false, Bool.not_true, Bool.not_false, cond_true, cond_false, Bool.true_and, Bool.false_and, Bool.and_true, Bool.and_false] <;> decide), if_pos (by omega)]; rfl
            · skip
              have h29 := t_not h18
              refine rg_put (d := 42) (v := .d (.fl undef)) rfl (on rfl rfl rfl h18) ?_
              refine rg_put (d := 43) (v := .d (.fl undef)) rfl (on rfl rfl rfl h18) ?_
              refine rg_put (d := 44) (v := .d (.fl undef)) rfl (on rfl rfl rfl h18) ?_
              refine rg_put (d := 45) (v := .d (.fl undef)) rfl (on rfl rfl rfl h18) ?_
              refine rg_put (d := 46) (v := .d (.fl (.bool true))) rfl (og rfl (op_pick rfl rfl (by rw [h18]; rfl) rfl)) ?_
              refine rg_done rfl ?_
              refine a_condK rfl rfl ?_
              refine a_rseq ?_
              refine rg_put (d := 2) (v := .d (.fl (.int .i64 12))) rfl (og rfl (op_assign rfl rfl rfl)) ?_
              refine rg_done rfl ?_
              refine a_ret ?_
              show ∃ ds, ResL _ _ _ ds ∧ RV.of ds = _
              refine ⟨[.fl (.int .i64 12)], (.cons (.tmp rfl (.d _)) .nil), ?_⟩
              unfold zck; rw [if_neg (by rw [h3]; decide), if_neg (by omega), if_neg (by rw [hH]; decide), if_neg (by rw [f_bne h13]; decide), if_pos (by simp only [h17, h29, Bool.true_or, Bool.false_or, Bool.or_true, Bool.or_false, Bool.not_true, Bool.not_false, cond_true, cond_false, Bool.true_and, Bool.false_and, Bool.and_true, Bool.and_false] <;> rfl)]; rfl
          · skip
            have h30 := t_not h16
            refine rg_put (d := 36) (v := .d (.fl undef)) rfl (on rfl rfl rfl h16) ?_
            refine rg_put (d := 37) (v := .d (.fl undef)) rfl (on rfl rfl rfl h16) ?_
            refine rg_put (d := 38) (v := .d (.fl undef)) rfl (on rfl rfl rfl h16) ?_
            refine rg_put (d := 39) (v := .d (.fl undef)) rfl (on rfl rfl rfl h16) ?_
            refine rg_put (d := 40) (v := .d (.fl (.bool true))) rfl (og rfl (op_pick rfl rfl (by rw [h16]; rfl) rfl)) ?_
            refine rg_put (d := 41) (v := .d (.fl (.bool true))) rfl (og rfl (op_move rfl rfl rfl)) ?_
            refine rg_put (d := 42) (v := .d (.fl undef)) rfl (on rfl rfl rfl rfl) ?_
            refine rg_put (d := 43) (v := .d (.fl undef)) rfl (on rfl rfl rfl rfl) ?_
            refine rg_put (d := 44) (v := .d (.fl undef)) rfl (on rfl rfl rfl rfl) ?_
            refine rg_put (d := 45) (v := .d (.fl undef)) rfl (on rfl rfl rfl rfl) ?_
            refine rg_put (d := 46) (v := .d (.fl (.bool true))) rfl (og rfl (op_pick rfl rfl rfl rfl)) ?_
            refine rg_done rfl ?_
            refine a_condK rfl rfl ?_
            refine a_rseq ?_
            refine rg_put (d := 2) (v := .d (.fl (.int .i64 12))) rfl (og rfl (op_assign rfl rfl rfl)) ?_
            refine rg_done rfl ?_
            refine a_ret ?_
            show ∃ ds, ResL _ _ _ ds ∧ RV.of ds = _
            refine ⟨[.fl (.int .i64 12)], (.cons (.tmp rfl (.d _)) .nil), ?_⟩
            unfold zck; rw [if_neg (by rw [h3]; decide), if_neg (by omega), if_neg (by rw [hH]; decide), if_neg (by rw [f_bne h13]; decide), if_pos (by simp only [h30, Bool.true_or, Bool.false_or, Bool.or_true, Bool.or_false, Bool.not_true, Bool.not_false, cond_true, cond_false, Bool.true_and, Bool.false_and, Bool.and_true, Bool.and_false] <;> rfl)]; rfl

end Go.Proofs.Ytniefocnfcaebaa.Wk
