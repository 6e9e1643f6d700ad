/- Runs and frames. No condition. -/
import Derived.Test.YtipkielpicfobaaO1
set_option linter.unusedSimpArgs false
set_option linter.unusedVariables false
namespace Go.Proofs.Ytipkielpicfobaa.Wk
open Go Go.RowKit Go.Proofs.Ytipkielpicfobaa.Av
def nrB (a b gap : Int) : Bool := decide (IntKind.u64.wrap (IntKind.u64.wrap (max a b) - IntKind.u64.wrap (min a b)) ≤ IntKind.u64.wrap (max gap 0))
def clB (a b : Sen) (gap : Int) : Bool := sEq a.point b.point && nrB a.time b.time gap

set_option maxHeartbeats 4000000 in
set_option maxRecDepth 100000 in
theorem nrC (a b gap : Int) : Ctr Try.prog 61 [.fl (.int .i64 a), .fl (.int .i64 b), .fl (.int .i64 gap)] (.d (.fl (.bool (nrB a b gap)))) := by
  refine ctr (n := 20) (rs := #[.tmp 6]) (L := [(0, .d (.fl (.int .i64 a))), (1, .d (.fl (.int .i64 b))), (2, .d (.fl (.int .i64 gap)))]) Try.func61 rfl rfl rfl rfl rfl (fun w0 U0 => ?_)
  refine a_rseq ?_
  refine rg_put (d := 6) (v := .d (.fl (.bool false))) rfl (og rfl (op_assign rfl rfl rfl)) ?_
  refine rg_done rfl ?_
  refine a_rseq ?_
  refine rg_put (d := 7) (v := .d (.fl (.int .i64 a))) rfl (og rfl (op_move rfl rfl rfl)) ?_
  refine rg_put (d := 8) (v := .d (.fl (.int .i64 b))) rfl (og rfl (op_move rfl rfl rfl)) ?_
  refine rg_put (d := 9) (v := .d (.fl (.int .i64 (max a b)))) rfl (og rfl (op_max rfl rfl rfl rfl)) ?_
  refine rg_put (d := 10) (v := .d (.fl (.int .u64 ((IntKind.u64.wrap (max a b)))))) rfl (og rfl (op_convK rfl Try.underlying3 Try.underlying91 rfl rfl)) ?_
  refine rg_put (d := 11) (v := .d (.fl (.int .i64 a))) rfl (og rfl (op_move rfl rfl rfl)) ?_
  refine rg_put (d := 12) (v := .d (.fl (.int .i64 b))) rfl (og rfl (op_move rfl rfl rfl)) ?_
  refine rg_put (d := 13) (v := .d (.fl (.int .i64 (min a b)))) rfl (og rfl (op_min rfl rfl rfl rfl)) ?_
  refine rg_put (d := 14) (v := .d (.fl (.int .u64 ((IntKind.u64.wrap (min a b)))))) rfl (og rfl (op_convK rfl Try.underlying3 Try.underlying91 rfl rfl)) ?_
  refine rg_put (d := 15) (v := .d (.fl (.int .u64 ((IntKind.u64.wrap (((IntKind.u64.wrap (max a b))) - ((IntKind.u64.wrap (min a b))))))))) rfl (og rfl (op_bin rfl rfl rfl (b_sub _ _ _ _) rfl)) ?_
  refine rg_put (d := 16) (v := .d (.fl (.int .i64 gap))) rfl (og rfl (op_move rfl rfl rfl)) ?_
  refine rg_put (d := 17) (v := .d (.fl (.int .i64 (max gap 0)))) rfl (og rfl (op_max rfl rfl rfl rfl)) ?_
  refine rg_put (d := 18) (v := .d (.fl (.int .u64 ((IntKind.u64.wrap (max gap 0)))))) rfl (og rfl (op_convK rfl Try.underlying3 Try.underlying91 rfl rfl)) ?_
  refine rg_put (d := 19) (v := .d (.fl (.bool ((decide ((IntKind.u64.wrap (((IntKind.u64.wrap (max a b))) - ((IntKind.u64.wrap (min a b))))) ≤ (IntKind.u64.wrap (max gap 0)))))))) rfl (og rfl (op_bin rfl rfl rfl (b_leq _ _ _ _) rfl)) ?_
  refine rg_put (d := 6) (v := .d (.fl (.bool ((decide ((IntKind.u64.wrap (((IntKind.u64.wrap (max a b))) - ((IntKind.u64.wrap (min a b))))) ≤ (IntKind.u64.wrap (max gap 0)))))))) rfl (og rfl (op_assign rfl rfl rfl)) ?_
  refine rg_done rfl ?_
  refine a_ret ?_
  show ∃ ds, ResL _ _ _ ds ∧ RV.of ds = _
  refine ⟨[.fl (.bool ((decide ((IntKind.u64.wrap (((IntKind.u64.wrap (max a b))) - ((IntKind.u64.wrap (min a b))))) ≤ (IntKind.u64.wrap (max gap 0))))))], (.cons (.tmp rfl (.d _)) .nil), ?_⟩
  rfl
set_option maxHeartbeats 4000000 in
set_option maxRecDepth 100000 in
theorem clC (a b : Sen) (gap : Int) : Ctr Try.prog 42 [.ag (eSen a), .ag (eSen b), .fl (.int .i64 gap)] (.d (.fl (.bool (clB a b gap)))) := by
  refine ctr (n := 20) (rs := #[.tmp 6]) (L := [(0, .d (.ag (eSen a))), (1, .d (.ag (eSen b))), (2, .d (.fl (.int .i64 gap)))]) Try.func42 rfl rfl rfl rfl rfl (fun w0 U0 => ?_)
  refine a_rseq ?_
  refine rg_nam (d := 3) (v := .pt 101 0) (m := 101) (nw := [(101, .bx 31 (eSen a))]) rfl (og rfl (of_eff (op_box 101 rfl rfl rfl rfl) rfl)) rfl ?_
  refine rg_nam (d := 4) (v := .pt 102 0) (m := 102) (nw := [(102, .bx 31 (eSen b))]) rfl (og rfl (of_eff (op_box 102 rfl rfl rfl rfl) rfl)) rfl ?_
  refine rg_put (d := 6) (v := .d (.fl (.bool false))) rfl (og rfl (op_assign rfl rfl rfl)) ?_
  refine rg_done rfl ?_
  refine a_rseq ?_
  refine rg_put (d := 7) (v := .pt 101 8) rfl (og rfl (of_eff (s_field_pt rfl Try.underlying31 rfl ti9 rfl rfl rfl) rfl)) ?_
  refine rg_put (d := 8) (v := .d (.fl (.string a.point))) rfl (og rfl (op_load_pt rfl Try.underlying9 rfl rfl rfl rfl rfl)) ?_
  refine rg_put (d := 9) (v := .pt 102 8) rfl (og rfl (of_eff (s_field_pt rfl Try.underlying31 rfl ti9 rfl rfl rfl) rfl)) ?_
  refine rg_put (d := 10) (v := .d (.fl (.string b.point))) rfl (og rfl (op_load_pt rfl Try.underlying9 rfl rfl rfl rfl rfl)) ?_
  refine rg_put (d := 11) (v := .d (.fl (.bool (sEq a.point b.point)))) rfl (og rfl (op_bin rfl rfl rfl (b_seq _ _ _) rfl)) ?_
  refine rg_put (d := 12) (v := .d (.fl (.bool (sEq a.point b.point)))) rfl (og rfl (op_move rfl rfl rfl)) ?_
  rcases fot (sEq a.point b.point) with h1 | h1
  · skip
    refine rg_put (d := 13) (v := .d (.fl undef)) rfl (on rfl rfl rfl h1) ?_
    refine rg_put (d := 14) (v := .d (.fl undef)) rfl (on rfl rfl rfl h1) ?_
    refine rg_put (d := 15) (v := .d (.fl undef)) rfl (on rfl rfl rfl h1) ?_
    refine rg_put (d := 16) (v := .d (.fl undef)) rfl (on rfl rfl rfl h1) ?_
    refine rg_put (d := 17) (v := .d (.fl undef)) rfl (on rfl rfl rfl h1) ?_
    refine rg_put (d := 18) (v := .d (.fl undef)) rfl (on rfl rfl rfl h1) ?_
    refine rg_put (d := 19) (v := .d (.fl (.bool false))) rfl (og rfl (op_pick rfl rfl (by rw [h1]; rfl) rfl)) ?_
    refine rg_put (d := 6) (v := .d (.fl (.bool false))) rfl (og rfl (op_assign rfl rfl rfl)) ?_
    refine rg_done rfl ?_
    refine a_ret ?_
    show ∃ ds, ResL _ _ _ ds ∧ RV.of ds = _
    refine ⟨[.fl (.bool false)], (.cons (.tmp rfl (.d _)) .nil), ?_⟩
    first
      | (have hu : clB a b gap = false := by
          unfold clB; simp only [h1, Bool.true_or, Bool.false_or, Bool.or_true, Bool.or_false, Bool.not_true, Bool.not_false, cond_true, cond_false, Bool.true_and, Bool.false_and, Bool.and_true, Bool.and_false] <;> rfl
         rw [hu]; rfl)
      | (exfalso; omega)
  · skip
    refine rg_put (d := 13) (v := .pt 101 7) rfl (oy rfl rfl rfl h1 (of_eff (s_field_pt rfl Try.underlying31 rfl ti3 rfl rfl rfl) rfl)) ?_
    refine rg_put (d := 14) (v := .d (.fl (.int .i64 a.time))) rfl (oy rfl rfl rfl h1 (op_load_pt rfl Try.underlying3 rfl rfl rfl rfl rfl)) ?_
    refine rg_put (d := 15) (v := .pt 102 7) rfl (oy rfl rfl rfl h1 (of_eff (s_field_pt rfl Try.underlying31 rfl ti3 rfl rfl rfl) rfl)) ?_
    refine rg_put (d := 16) (v := .d (.fl (.int .i64 b.time))) rfl (oy rfl rfl rfl h1 (op_load_pt rfl Try.underlying3 rfl rfl rfl rfl rfl)) ?_
    refine rg_put (d := 17) (v := .d (.fl (.int .i64 gap))) rfl (oy rfl rfl rfl h1 (op_move rfl rfl rfl)) ?_
    refine rg_put (d := 18) (v := .d (.fl (.bool (nrB a.time b.time gap)))) rfl (oy rfl rfl rfl h1 (op_call rfl Try.func61 nm61 rfl (.cons rfl (.d _) (.cons rfl (.d _) (.cons rfl (.d _) .nil))) (nrC a.time b.time gap) rfl)) ?_
    refine rg_put (d := 19) (v := .d (.fl (.bool (nrB a.time b.time gap)))) rfl (og rfl (op_pick rfl rfl (by rw [h1]; rfl) rfl)) ?_
    refine rg_put (d := 6) (v := .d (.fl (.bool (nrB a.time b.time gap)))) rfl (og rfl (op_assign rfl rfl rfl)) ?_
    refine rg_done rfl ?_
    refine a_ret ?_
    show ∃ ds, ResL _ _ _ ds ∧ RV.of ds = _
    refine ⟨[.fl (.bool (nrB a.time b.time gap))], (.cons (.tmp rfl (.d _)) .nil), ?_⟩
    first
      | (have hu : clB a b gap = (nrB a.time b.time gap) := by
          unfold clB; simp only [h1, Bool.true_or, Bool.false_or, Bool.or_true, Bool.or_false, Bool.not_true, Bool.not_false, cond_true, cond_false, Bool.true_and, Bool.false_and, Bool.and_true, Bool.and_false] <;> rfl
         rw [hu]; rfl)
      | (exfalso; omega)
def srt (l : List Sen) : List Sen := l.mergeSort (fun x y => decide (cq x y ≤ 0))
theorem srt_perm (l : List Sen) : (srt l).Perm l := List.mergeSort_perm l _
theorem srt_len (l : List Sen) : (srt l).length = l.length := (srt_perm l).length_eq
theorem srt_pw (l : List Sen) : (srt l).Pairwise (fun x y => cq x y ≤ 0) := by
  have := List.pairwise_mergeSort (le := fun x y : Sen => decide (cq x y ≤ 0)) (fun a b c h1 h2 => by simp only [decide_eq_true_eq] at *; exact (cq_tq a b c h1 h2).1) (fun a b => by have := cq_neg a b; simp only [Bool.or_eq_true, decide_eq_true_eq]; omega) l
  exact this.imp (fun h => by simpa using h)
theorem srt_eq {l l' : List Sen} (hp : l'.Perm l) (hs : l'.Pairwise (fun x y => cq x y ≤ 0)) : l' = srt l :=
  perm_uniq (fun x y h1 h2 => cq_e (by have := cq_neg x y; omega)) (hp.trans (srt_perm l).symm) hs (srt_pw l)
theorem srt_congr {l m : List Sen} (h : l.Perm m) : srt l = srt m := srt_eq ((srt_perm l).trans h) (srt_pw l)
def brk (L : List Sen) (gap : Int) (i : Nat) : Bool := !(decide ((i : Int) + 1 < (L.length : Int)) && clB (ix L i) (ix L (i + 1)) gap)
theorem brk_f {L : List Sen} {gap : Int} {i : Nat} (h : brk L gap i = false) : i + 1 < L.length ∧ clB (ix L i) (ix L (i + 1)) gap = true := by
  unfold brk at h
  rw [Bool.not_eq_false', Bool.and_eq_true, decide_eq_true_eq] at h
  exact ⟨by omega, h.2⟩
theorem brk_t {L : List Sen} {gap : Int} {i : Nat} (h : brk L gap i = true) (hi : i + 1 < L.length) : clB (ix L i) (ix L (i + 1)) gap = false := by
  unfold brk at h
  rw [decide_eq_true (by omega), Bool.true_and] at h
  simpa using h
theorem brk_end (L : List Sen) (gap : Int) {i : Nat} (h : L.length ≤ i + 1) : brk L gap i = true := by
  unfold brk
  rw [decide_eq_false (by omega)]; rfl
def fr0 (L : List Sen) (gap : Int) : Nat → Nat
  | 0 => 0
  | k + 1 => if brk L gap k = true then k + 1 else fr0 L gap k
def rns (L : List Sen) (gap : Int) : Nat → List (List Sen)
  | 0 => []
  | k + 1 => if brk L gap k = true then rns L gap k ++ [(L.drop (fr0 L gap k)).take (k + 1 - fr0 L gap k)] else rns L gap k
theorem fr0_y {L : List Sen} {gap : Int} {k : Nat} (h : brk L gap k = true) : fr0 L gap (k + 1) = k + 1 := if_pos h
theorem fr0_n {L : List Sen} {gap : Int} {k : Nat} (h : brk L gap k = false) : fr0 L gap (k + 1) = fr0 L gap k := if_neg (by rw [h]; decide)
theorem rns_y {L : List Sen} {gap : Int} {k : Nat} (h : brk L gap k = true) : rns L gap (k + 1) = rns L gap k ++ [(L.drop (fr0 L gap k)).take (k + 1 - fr0 L gap k)] := if_pos h
theorem rns_n {L : List Sen} {gap : Int} {k : Nat} (h : brk L gap k = false) : rns L gap (k + 1) = rns L gap k := if_neg (by rw [h]; decide)
theorem fr0_le (L : List Sen) (gap : Int) : ∀ k, fr0 L gap k ≤ k
  | 0 => Nat.le_refl _
  | k + 1 => by
    have := fr0_le L gap k
    cases h : brk L gap k with
    | true => rw [fr0_y h]; omega
    | false => rw [fr0_n h]; omega
theorem rns_len (L : List Sen) (gap : Int) : ∀ k, (rns L gap k).length ≤ k
  | 0 => Nat.le_refl _
  | k + 1 => by
    have := rns_len L gap k
    cases h : brk L gap k with
    | true => rw [rns_y h, List.length_append, List.length_singleton]; omega
    | false => rw [rns_n h]; omega
theorem rns_pre (L : List Sen) (gap : Int) (k : Nat) : ∀ d, ∃ r, rns L gap (k + d) = rns L gap k ++ r
  | 0 => ⟨[], by rw [List.append_nil]; rfl⟩
  | d + 1 => by
    obtain ⟨r, hr⟩ := rns_pre L gap k d
    cases h : brk L gap (k + d) with
    | true => exact ⟨r ++ [_], by rw [show k + (d + 1) = (k + d) + 1 from rfl, rns_y h, hr, List.append_assoc]⟩
    | false => exact ⟨r, by rw [show k + (d + 1) = (k + d) + 1 from rfl, rns_n h, hr]⟩
theorem rns_get {L : List Sen} {gap : Int} {k : Nat} (hk : k < L.length) (hb : brk L gap k = true) : (rns L gap L.length)[(rns L gap k).length]? = some ((L.drop (fr0 L gap k)).take (k + 1 - fr0 L gap k)) := by
  obtain ⟨r, hr⟩ := rns_pre L gap (k + 1) (L.length - (k + 1))
  rw [show k + 1 + (L.length - (k + 1)) = L.length by omega] at hr
  rw [hr, rns_y hb, List.append_assoc, List.getElem?_append_right (Nat.le_refl _), Nat.sub_self]; rfl
theorem rns_at {L : List Sen} {gap : Int} {k : Nat} (hk : k < L.length) (hb : brk L gap k = true) : (List.map (fun r => DV.sl 11 (List.map eSen r)) (rns L gap L.length))[(rns L gap k).length]? = some (.sl 11 (List.map eSen ((L.drop (fr0 L gap k)).take ((((k : Int) + 1)).toNat - fr0 L gap k)))) := by
  rw [List.getElem?_map, rns_get hk hb, show (((k : Int) + 1)).toNat = k + 1 by omega]; rfl
theorem rns_lt {L : List Sen} {gap : Int} {k : Nat} (hk : k < L.length) (hb : brk L gap k = true) : (rns L gap k).length < (rns L gap L.length).length := by
  obtain ⟨h, _⟩ := List.getElem?_eq_some_iff.1 (rns_get hk hb); exact h
def SepR (gap : Int) (a b : Sen) : Prop := ∃ x y, cq a x ≤ 0 ∧ cq x y ≤ 0 ∧ cq y b ≤ 0 ∧ clB x y gap = false
structure RunOk (gap : Int) (r : List Sen) : Prop where
  ne : r.length ≠ 0
  c : ∀ j, j + 1 < r.length → clB (ix r j) (ix r (j + 1)) gap = true
  s : r.Pairwise (fun x y => cq x y ≤ 0)
theorem pw_ix {L : List Sen} (hS : L.Pairwise (fun x y => cq x y ≤ 0)) {p q : Nat} (h : p ≤ q) (hq : q < L.length) : cq (ix L p) (ix L q) ≤ 0 := by
  rcases Nat.lt_or_ge p q with h1 | h1
  · have := List.pairwise_iff_getElem.1 hS p q (by omega) hq h1
    rw [ix_eq (by omega), ix_eq hq] at this; exact this
  · have : p = q := by omega
    subst this; rw [cq_self]; exact Int.le_refl _
theorem seg_ix {L : List Sen} {f n j : Nat} (h : j < ((L.drop f).take n).length) : ix ((L.drop f).take n) j = ix L (f + j) := by
  unfold ix
  rw [List.length_take, List.length_drop] at h
  rw [List.getD_eq_getElem?_getD, List.getD_eq_getElem?_getD, List.getElem?_take_of_lt (by omega), List.getElem?_drop]
theorem run_all {L : List Sen} {gap : Int} (hS : L.Pairwise (fun x y => cq x y ≤ 0)) : ∀ k, k ≤ L.length →
    (rns L gap k).flatten ++ (L.drop (fr0 L gap k)).take (k - fr0 L gap k) = L.take k ∧ (∀ r ∈ rns L gap k, RunOk gap r) ∧ (∀ j, fr0 L gap k ≤ j → j < k → brk L gap j = false) ∧
    (rns L gap k).Pairwise (fun r1 r2 => ∀ a ∈ r1, ∀ b ∈ r2, SepR gap a b) ∧ (∀ r ∈ rns L gap k, ∀ a ∈ r, ∀ q, fr0 L gap k ≤ q → q < L.length → SepR gap a (ix L q))
  | 0, _ => ⟨by rw [List.take_zero]; simp [rns], fun r h => (by cases h), fun j _ h => by omega, List.Pairwise.nil, fun r h => (by cases h)⟩
  | k + 1, hk => by
    obtain ⟨h1, h2, h3, h4, h5⟩ := run_all hS k (by omega)
    have hf := fr0_le L gap k
    have hT : (L.drop (fr0 L gap k)).take (k + 1 - fr0 L gap k) = (L.drop (fr0 L gap k)).take (k - fr0 L gap k) ++ [ix L k] := by
      rw [show k + 1 - fr0 L gap k = (k - fr0 L gap k) + 1 by omega, take_ix (by rw [List.length_drop]; omega)]
      congr 2
      unfold ix
      rw [List.getD_eq_getElem?_getD, List.getD_eq_getElem?_getD, List.getElem?_drop, show fr0 L gap k + (k - fr0 L gap k) = k by omega]
    cases hb : brk L gap k with
    | false =>
      rw [rns_n hb, fr0_n hb]
      refine ⟨by rw [hT, ← List.append_assoc, h1, ← take_ix (by omega)], h2, fun j a b => ?_, h4, h5⟩
      by_cases hj : j = k
      · subst hj; exact hb
      · exact h3 j a (by omega)
    | true =>
      have hlen : ((L.drop (fr0 L gap k)).take (k + 1 - fr0 L gap k)).length = k + 1 - fr0 L gap k := by rw [List.length_take, List.length_drop]; omega
      have hmem : ∀ a, a ∈ (L.drop (fr0 L gap k)).take (k + 1 - fr0 L gap k) → ∃ p, fr0 L gap k ≤ p ∧ p ≤ k ∧ a = ix L p := fun a ha => by
        obtain ⟨j, hj, he⟩ := mem_ix ha
        refine ⟨fr0 L gap k + j, by omega, by omega, ?_⟩
        rw [← he, seg_ix hj]
      rw [rns_y hb, fr0_y hb]
      refine ⟨?_, fun r hr => ?_, fun j a b => by omega, ?_, fun r hr a ha q hq1 hq2 => ?_⟩
      · rw [List.flatten_append, List.flatten_singleton, hT, ← List.append_assoc, h1, Nat.sub_self, List.take_zero, List.append_nil, ← take_ix (by omega)]
      · rcases List.mem_append.1 hr with hr | hr
        · exact h2 r hr
        · rw [List.mem_singleton] at hr; subst hr
          refine ⟨by omega, fun j hj => ?_, (hS.sublist (List.drop_sublist _ _)).sublist (List.take_sublist _ _)⟩
          rw [seg_ix (by omega), seg_ix (by omega)]
          exact (brk_f (h3 (fr0 L gap k + j) (by omega) (by omega))).2
      · refine List.pairwise_append.2 ⟨h4, List.pairwise_singleton _ _, fun r1 hr1 r2 hr2 a ha b hb2 => ?_⟩
        rw [List.mem_singleton] at hr2; subst hr2
        obtain ⟨p, hp1, hp2, rfl⟩ := hmem b hb2
        exact h5 r1 hr1 a ha p hp1 (by omega)
      · rcases List.mem_append.1 hr with hr | hr
        · exact h5 r hr a ha q (by omega) hq2
        · rw [List.mem_singleton] at hr; subst hr
          obtain ⟨p, hp1, hp2, rfl⟩ := hmem a ha
          exact ⟨ix L k, ix L (k + 1), pw_ix hS hp2 (by omega), pw_ix hS (by omega) (by omega), pw_ix hS hq1 hq2, brk_t hb (by omega)⟩
def rnA (l : List Sen) (gap : Int) : List (List Sen) := rns (srt l) gap (srt l).length
theorem rnA_ok (l : List Sen) (gap : Int) : (rnA l gap).flatten = srt l ∧ (∀ r ∈ rnA l gap, RunOk gap r) ∧ (rnA l gap).Pairwise (fun r1 r2 => ∀ a ∈ r1, ∀ b ∈ r2, SepR gap a b) := by
  obtain ⟨h1, h2, h3, h4, _⟩ := run_all (gap := gap) (srt_pw l) (srt l).length (Nat.le_refl _)
  refine ⟨?_, h2, h4⟩
  have hf := fr0_le (srt l) gap (srt l).length
  have : fr0 (srt l) gap (srt l).length = (srt l).length := by
    rcases Nat.lt_or_ge (fr0 (srt l) gap (srt l).length) (srt l).length with h | h
    · have := h3 ((srt l).length - 1) (by omega) (by omega)
      rw [brk_end _ _ (by omega)] at this; cases this
    · omega
  rw [this, Nat.sub_self, List.take_zero, List.append_nil, List.take_length] at h1
  exact h1
theorem rnA_len (l : List Sen) (gap : Int) : (rnA l gap).length ≤ l.length := by
  have := rns_len (srt l) gap (srt l).length
  rw [srt_len] at this; unfold rnA; rw [srt_len]; exact this
theorem rnA_row {l : List Sen} {gap : Int} {r : List Sen} (h : r ∈ rnA l gap) : r.length ≤ l.length := by
  have h1 := (rnA_ok l gap).1
  have h2 : r.length ≤ (rnA l gap).flatten.length := by
    obtain ⟨a, b, hab⟩ := List.append_of_mem h
    rw [hab, List.flatten_append, List.flatten_cons]; simp only [List.length_append]; omega
  rw [h1, srt_len] at h2; exact h2
theorem clB_self (x : Sen) (gap : Int) : clB x x gap = true := by
  unfold clB nrB
  have h1 : sEq x.point x.point = true := eq_self_s _
  rw [h1, Int.max_self, Int.min_self, Int.sub_self]
  have h2 : IntKind.u64.wrap 0 = 0 := by decide
  rw [h2, Bool.true_and]
  refine decide_eq_true ?_
  have : 0 ≤ IntKind.u64.wrap (max gap 0) := by unfold IntKind.wrap; exact Int.emod_nonneg _ (by decide)
  exact this
theorem sep_ne {gap : Int} {a b : Sen} (h : SepR gap a b) : a ≠ b := by
  rintro rfl
  obtain ⟨x, y, h1, h2, h3, h4⟩ := h
  have e1 : x = y := by
    have h5 : cq y x ≤ 0 := (cq_tq y a x h3 h1).1
    exact cq_e (by have := cq_neg x y; omega)
  rw [e1, clB_self] at h4; cases h4
def fle (a b : List Sen) : Bool := decide (cs (ix a 0) (ix b 0) ≤ 0)
def frm (l : List Sen) (gap : Int) : List (List Sen) := (rnA l gap).mergeSort fle
theorem frm_perm (l : List Sen) (gap : Int) : (frm l gap).Perm (rnA l gap) := List.mergeSort_perm _ _
theorem frm_pw (l : List Sen) (gap : Int) : (frm l gap).Pairwise (fun a b => cs (ix a 0) (ix b 0) ≤ 0) := by
  have := List.pairwise_mergeSort (le := fle) (fun a b c h1 h2 => by simp only [fle, decide_eq_true_eq] at *; exact (cs_tq _ _ _ h1 h2).1) (fun a b => by have := cs_neg (ix a 0) (ix b 0); simp only [fle, Bool.or_eq_true, decide_eq_true_eq]; omega) (rnA l gap)
  exact this.imp (fun h => by simpa [fle] using h)
theorem first_eq {l : List Sen} {gap : Int} {a b : List Sen} (ha : a ∈ rnA l gap) (hb : b ∈ rnA l gap) (h : ix a 0 = ix b 0) : a = b := by
  obtain ⟨_, h2, h3⟩ := rnA_ok l gap
  obtain ⟨p, hp, rfl⟩ := List.getElem_of_mem ha
  obtain ⟨q, hq, rfl⟩ := List.getElem_of_mem hb
  have m1 := ix_mem (show 0 < ((rnA l gap)[p]).length by have := (h2 _ ha).ne; omega)
  have m2 := ix_mem (show 0 < ((rnA l gap)[q]).length by have := (h2 _ hb).ne; omega)
  rcases Nat.lt_trichotomy p q with e | e | e
  · exact absurd h (sep_ne (List.pairwise_iff_getElem.1 h3 p q hp hq e _ m1 _ m2))
  · subst e; rfl
  · exact absurd h.symm (sep_ne (List.pairwise_iff_getElem.1 h3 q p hq hp e _ m2 _ m1))
theorem frm_eq {l : List Sen} {gap : Int} {F : List (List Sen)} (hp : F.Perm (rnA l gap)) (hs : F.Pairwise (fun a b => cs (ix a 0) (ix b 0) ≤ 0)) : F = frm l gap := by
  have key : ∀ {G : List (List Sen)}, G.Perm (rnA l gap) → G.Pairwise (fun a b => cs (ix a 0) (ix b 0) ≤ 0) → G.Pairwise (fun a b => cs (ix a 0) (ix b 0) ≤ 0 ∧ a ∈ rnA l gap ∧ b ∈ rnA l gap) := fun {G} h1 h2 => h2.imp_of_mem (fun ha hb h => ⟨h, h1.subset ha, h1.subset hb⟩)
  exact perm_uniq (r := fun a b => cs (ix a 0) (ix b 0) ≤ 0 ∧ a ∈ rnA l gap ∧ b ∈ rnA l gap) (fun x y h1 h2 => first_eq h1.2.1 h1.2.2 (cs_e (by have := cs_neg (ix x 0) (ix y 0); omega))) (hp.trans (frm_perm l gap).symm) (key hp hs) (key (frm_perm l gap) (frm_pw l gap))
theorem frm_congr {l m : List Sen} (h : l.Perm m) (gap : Int) : frm l gap = frm m gap := by unfold frm rnA; rw [srt_congr h]
theorem frm_flat (l : List Sen) (gap : Int) : (frm l gap).flatten.Perm l := by
  have h := (frm_perm l gap).flatten
  rw [(rnA_ok l gap).1] at h
  exact h.trans (srt_perm l)
theorem frm_len (l : List Sen) (gap : Int) : (frm l gap).length ≤ l.length := by rw [(frm_perm l gap).length_eq]; exact rnA_len l gap
theorem frm_run {l : List Sen} {gap : Int} {r : List Sen} (h : r ∈ frm l gap) : RunOk gap r ∧ r.length ≤ l.length := ⟨(rnA_ok l gap).2.1 r ((frm_perm l gap).subset h), rnA_row ((frm_perm l gap).subset h)⟩
theorem frm_sep (l : List Sen) (gap : Int) : (frm l gap).Pairwise (fun r1 r2 => ∀ a ∈ r1, ∀ b ∈ r2, SepR gap a b ∨ SepR gap b a) :=
  ((frm_perm l gap).pairwise_iff (fun {r1 r2} h b hb a ha => (h a ha b hb).symm)).2 ((rnA_ok l gap).2.2.imp (fun h a ha b hb => .inl (h a ha b hb)))

end Go.Proofs.Ytipkielpicfobaa.Wk
