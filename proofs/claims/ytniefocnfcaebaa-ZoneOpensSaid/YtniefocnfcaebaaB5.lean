/- Normal forms, by the program. Conditions: as each theorem names them. -/
import Derived.Shelf.SlSortCmp.NoneTotal
import Derived.Test.YtniefocnfcaebaaAvS
import Derived.Test.YtniefocnfcaebaaLaid
import Derived.Test.YtniefocnfcaebaaB2
import Derived.Test.YtniefocnfcaebaaNf
set_option linter.unusedSimpArgs false
set_option linter.unusedVariables false
namespace Go.Proofs.Ytniefocnfcaebaa.Wk
open Go Go.RowKit Go.Proofs.Ytniefocnfcaebaa.Av
theorem ne_self_b (a : Int) : (a != a) = false := by simp
def ic (a b : Int) : Int := bif decide (a < b) then -1 else bif decide (b < a) then 1 else 0
def sc (s u : ByteArray) : Int := bif sEq s u then 0 else bif sLt s u then -1 else 1
def fz : List Int → Int
  | [] => 0
  | x :: l => bif x != 0 then x else fz l
def Neg (x y : Int) : Prop := x = -y
def Tq (x y z : Int) : Prop := x ≤ 0 → y ≤ 0 → z ≤ 0 ∧ (z < 0 ↔ x < 0 ∨ y < 0)
theorem ic_neg (a b : Int) : ic a b = -(ic b a) := by
  unfold ic
  cases h : decide (a < b) <;> cases h2 : decide (b < a) <;> simp at h h2 ⊢ <;> omega
theorem ic_val (a b : Int) : (a < b ∧ ic a b = -1) ∨ (a = b ∧ ic a b = 0) ∨ (b < a ∧ ic a b = 1) := by
  unfold ic
  cases h : decide (a < b) <;> cases h2 : decide (b < a) <;> simp at h h2 ⊢ <;> omega
theorem ic_tq (a b c : Int) : Tq (ic a b) (ic b c) (ic a c) := by
  intro h1 h2
  have := ic_val a b
  have := ic_val b c
  have := ic_val a c
  omega
inductive T3 : List Int → List Int → List Int → Prop
  | nil : T3 [] [] []
  | cons {x y z : Int} {l m n : List Int} (h : Tq x y z) (hs : T3 l m n) : T3 (x :: l) (y :: m) (z :: n)
theorem swo_of {α : Type} {c : α → α → Int} (hn : ∀ x y, c x y = -(c y x)) (ht : ∀ x y z, Tq (c x y) (c y z) (c x z)) : Go.Sort.SWO (ltOf c) where
  irrefl x := by have := hn x x; unfold ltOf; exact decide_eq_false (by omega)
  trans x y z h1 h2 := by
    unfold ltOf at *
    simp only [decide_eq_true_eq] at *
    have := ht x y z (by omega) (by omega)
    omega
  ntrans x y z h1 h2 := by
    unfold ltOf at *
    simp only [decide_eq_false_iff_not] at *
    have h3 := hn x y
    have h4 := hn y z
    have h5 := hn x z
    have := ht z y x (by omega) (by omega)
    omega
theorem le_of_sorted {α : Type} {c : α → α → Int} (hn : ∀ x y, c x y = -(c y x)) {x y : α} (h : ltOf c y x = false) : c x y ≤ 0 := by
  unfold ltOf at h
  simp only [decide_eq_false_iff_not] at h
  have := hn x y
  omega

theorem tD_set {α : Type} {e : α → List DV} {l : List α} {k : Nat} {x : α} {y : List OC} (hy : y = (e x).map OC.dv) : (tD e l).set k y = tD e (l.set k x) := by
  rw [hy]
  unfold tD
  rw [List.map_set, List.map_set]

set_option maxHeartbeats 4000000 in
set_option maxRecDepth 100000 in
theorem nanI (x : Int) : Ctr Try.prog 53 [.fl (.int .i64 x)] (.d (.fl (.bool (x != x)))) := by
  refine ctr (n := 6) (rs := #[.tmp 2]) (L := [(0, .d (.fl (.int .i64 x)))]) Try.func53 rfl rfl rfl rfl rfl (fun w0 U0 => ?_)
  refine a_rseq ?_
  refine rg_put (d := 2) (v := .d (.fl (.bool false))) rfl (og rfl (op_assign rfl rfl rfl)) ?_
  refine rg_done rfl ?_
  refine a_rseq ?_
  refine rg_put (d := 3) (v := .d (.fl (.int .i64 x))) rfl (og rfl (op_move rfl rfl rfl)) ?_
  refine rg_put (d := 4) (v := .d (.fl (.int .i64 x))) rfl (og rfl (op_move rfl rfl rfl)) ?_
  refine rg_put (d := 5) (v := .d (.fl (.bool (x != x)))) rfl (og rfl (op_bin rfl rfl rfl (b_neq _ _ _ _) rfl)) ?_
  refine rg_put (d := 2) (v := .d (.fl (.bool (x != x)))) rfl (og rfl (op_assign rfl rfl rfl)) ?_
  refine rg_done rfl ?_
  refine a_ret ?_
  show ∃ ds, ResL _ _ _ ds ∧ RV.of ds = _
  refine ⟨[.fl (.bool (x != x))], (.cons (.tmp rfl (.d _)) .nil), ?_⟩
  rfl
set_option maxHeartbeats 4000000 in
set_option maxRecDepth 100000 in
theorem icC (x y : Int) : Ctr Try.prog 50 [.fl (.int .i64 x), .fl (.int .i64 y)] (.d (.fl (.int .i64 (ic x y)))) := by
  refine ctr (n := 20) (rs := #[.tmp 4]) (L := [(0, .d (.fl (.int .i64 x))), (1, .d (.fl (.int .i64 y)))]) Try.func50 rfl rfl rfl rfl rfl (fun w0 U0 => ?_)
  refine a_rseq ?_
  refine rg_put (d := 4) (v := .d (.fl (.int .i64 0))) rfl (og rfl (op_assign rfl rfl rfl)) ?_
  refine rg_done rfl ?_
  refine a_rseq ?_
  refine rg_put (d := 7) (v := .d (.fl (.int .i64 x))) rfl (og rfl (op_move rfl rfl rfl)) ?_
  refine rg_put (d := 8) (v := .d (.fl (.bool (x != x)))) rfl (og rfl (op_call rfl Try.func53 nm53 rfl (.cons rfl (.d _) .nil) (nanI x) rfl)) ?_
  refine rg_put (d := 5) (v := .d (.fl (.bool (x != x)))) rfl (og rfl (op_assign rfl rfl rfl)) ?_
  refine rg_done rfl ?_
  refine a_rseq ?_
  refine rg_put (d := 9) (v := .d (.fl (.int .i64 y))) rfl (og rfl (op_move rfl rfl rfl)) ?_
  refine rg_put (d := 10) (v := .d (.fl (.bool (y != y)))) rfl (og rfl (op_call rfl Try.func53 nm53 rfl (.cons rfl (.d _) .nil) (nanI y) rfl)) ?_
  refine rg_put (d := 6) (v := .d (.fl (.bool (y != y)))) rfl (og rfl (op_assign rfl rfl rfl)) ?_
  refine rg_done rfl ?_
  refine a_seq ?_
  refine a_rseq ?_
  refine rg_put (d := 11) (v := .d (.fl (.bool (x != x)))) rfl (og rfl (op_move rfl rfl rfl)) ?_
  refine rg_done rfl ?_
  refine a_condF rfl (ne_self_b _) ?_
  refine a_skip ?_
  show A _ _ _ _ _ _ _
  refine a_seq ?_
  refine a_rseq ?_
  refine rg_put (d := 13) (v := .d (.fl (.bool (y != y)))) rfl (og rfl (op_move rfl rfl rfl)) ?_
  refine rg_done rfl ?_
  refine a_condF rfl (ne_self_b _) ?_
  refine a_skip ?_
  show A _ _ _ _ _ _ _
  refine a_seq ?_
  refine a_rseq ?_
  refine rg_put (d := 14) (v := .d (.fl (.int .i64 x))) rfl (og rfl (op_move rfl rfl rfl)) ?_
  refine rg_put (d := 15) (v := .d (.fl (.int .i64 y))) rfl (og rfl (op_move rfl rfl rfl)) ?_
  refine rg_put (d := 16) (v := .d (.fl (.bool ((decide (x < y)))))) rfl (og rfl (op_bin rfl rfl rfl (b_lss _ _ _ _) rfl)) ?_
  refine rg_done rfl ?_
  refine a_cond rfl (fun h1 => ?_) (fun h1 => ?_)
  · skip
    have h2 := t_dec h1
    refine a_rseq ?_
    refine rg_put (d := 4) (v := .d (.fl (.int .i64 (-1)))) rfl (og rfl (op_assign rfl rfl rfl)) ?_
    refine rg_done rfl ?_
    refine a_ret ?_
    show ∃ ds, ResL _ _ _ ds ∧ RV.of ds = _
    refine ⟨[.fl (.int .i64 (-1))], (.cons (.tmp rfl (.d _)) .nil), ?_⟩
    first
      | (have hu : ic x y = (-1) := by
          unfold ic; simp only [h1, Bool.true_or, Bool.false_or, Bool.or_true, Bool.or_false, Bool.not_true, Bool.not_false, cond_true, cond_false, Bool.true_and, Bool.false_and, Bool.and_true, Bool.and_false] <;> rfl
         rw [hu]; rfl)
      | (exfalso; omega)
  · skip
    have h3 := f_dec h1
    refine a_skip ?_
    show A _ _ _ _ _ _ _
    refine a_seq ?_
    refine a_rseq ?_
    refine rg_put (d := 17) (v := .d (.fl (.int .i64 x))) rfl (og rfl (op_move rfl rfl rfl)) ?_
    refine rg_put (d := 18) (v := .d (.fl (.int .i64 y))) rfl (og rfl (op_move rfl rfl rfl)) ?_
    refine rg_put (d := 19) (v := .d (.fl (.bool ((decide (y < x)))))) rfl (og rfl (op_bin rfl rfl rfl (b_gtr _ _ _ _) rfl)) ?_
    refine rg_done rfl ?_
    refine a_cond rfl (fun h4 => ?_) (fun h4 => ?_)
    · skip
      have h5 := t_dec h4
      refine a_rseq ?_
      refine rg_put (d := 4) (v := .d (.fl (.int .i64 1))) rfl (og rfl (op_assign rfl rfl rfl)) ?_
      refine rg_done rfl ?_
      refine a_ret ?_
      show ∃ ds, ResL _ _ _ ds ∧ RV.of ds = _
      refine ⟨[.fl (.int .i64 1)], (.cons (.tmp rfl (.d _)) .nil), ?_⟩
      first
        | (have hu : ic x y = 1 := by
            unfold ic; simp only [h1, h4, Bool.true_or, Bool.false_or, Bool.or_true, Bool.or_false, Bool.not_true, Bool.not_false, cond_true, cond_false, Bool.true_and, Bool.false_and, Bool.and_true, Bool.and_false] <;> rfl
           rw [hu]; rfl)
        | (exfalso; omega)
    · skip
      have h6 := f_dec h4
      refine a_skip ?_
      show A _ _ _ _ _ _ _
      refine a_rseq ?_
      refine rg_put (d := 4) (v := .d (.fl (.int .i64 0))) rfl (og rfl (op_assign rfl rfl rfl)) ?_
      refine rg_done rfl ?_
      refine a_ret ?_
      show ∃ ds, ResL _ _ _ ds ∧ RV.of ds = _
      refine ⟨[.fl (.int .i64 0)], (.cons (.tmp rfl (.d _)) .nil), ?_⟩
      first
        | (have hu : ic x y = 0 := by
            unfold ic; simp only [h1, h4, Bool.true_or, Bool.false_or, Bool.or_true, Bool.or_false, Bool.not_true, Bool.not_false, cond_true, cond_false, Bool.true_and, Bool.false_and, Bool.and_true, Bool.and_false] <;> rfl
           rw [hu]; rfl)
        | (exfalso; omega)
set_option maxHeartbeats 4000000 in
set_option maxRecDepth 100000 in
theorem cpC (a b : Ivl) : Ctr Try.prog 49 [.ag (eIv a), .ag (eIv b)] (.d (.fl (.int .i64 (ic a.fr b.fr)))) := by
  refine ctr (n := 10) (rs := #[.tmp 4]) (L := [(0, .d (.ag (eIv a))), (1, .d (.ag (eIv b)))]) Try.func49 rfl rfl rfl rfl rfl (fun w0 U0 => ?_)
  refine a_rseq ?_
  refine rg_nam (d := 2) (v := .pt 101 0) (m := 101) (nw := [(101, .bx 32 (eIv a))]) rfl (og rfl (of_eff (op_box 101 rfl rfl rfl rfl) rfl)) rfl ?_
  refine rg_nam (d := 3) (v := .pt 102 0) (m := 102) (nw := [(102, .bx 32 (eIv b))]) rfl (og rfl (of_eff (op_box 102 rfl rfl rfl rfl) rfl)) rfl ?_
  refine rg_put (d := 4) (v := .d (.fl (.int .i64 0))) rfl (og rfl (op_assign rfl rfl rfl)) ?_
  refine rg_done rfl ?_
  refine a_rseq ?_
  refine rg_put (d := 5) (v := .pt 101 0) rfl (og rfl (of_eff (s_field_pt rfl Try.underlying32 rfl ti3 rfl rfl rfl) rfl)) ?_
  refine rg_put (d := 6) (v := .d (.fl (.int .i64 a.fr))) rfl (og rfl (op_load_pt rfl Try.underlying3 rfl rfl rfl rfl rfl)) ?_
  refine rg_put (d := 7) (v := .pt 102 0) rfl (og rfl (of_eff (s_field_pt rfl Try.underlying32 rfl ti3 rfl rfl rfl) rfl)) ?_
  refine rg_put (d := 8) (v := .d (.fl (.int .i64 b.fr))) rfl (og rfl (op_load_pt rfl Try.underlying3 rfl rfl rfl rfl rfl)) ?_
  refine rg_put (d := 9) (v := .d (.fl (.int .i64 (ic a.fr b.fr)))) rfl (og rfl (op_call rfl Try.func50 nm50 rfl (.cons rfl (.d _) (.cons rfl (.d _) .nil)) (icC a.fr b.fr) rfl)) ?_
  refine rg_put (d := 4) (v := .d (.fl (.int .i64 (ic a.fr b.fr)))) rfl (og rfl (op_assign rfl rfl rfl)) ?_
  refine rg_done rfl ?_
  refine a_ret ?_
  show ∃ ds, ResL _ _ _ ds ∧ RV.of ds = _
  refine ⟨[.fl (.int .i64 (ic a.fr b.fr))], (.cons (.tmp rfl (.d _)) .nil), ?_⟩
  rfl
def cpI (a b : Ivl) : Int := ic a.fr b.fr
theorem cpI_neg (a b : Ivl) : cpI a b = -(cpI b a) := ic_neg _ _
theorem cpI_tq (a b c : Ivl) : Tq (cpI a b) (cpI b c) (cpI a c) := ic_tq _ _ _
theorem cpI_le {a b : Ivl} (h : cpI a b ≤ 0) : a.fr ≤ b.fr := by have := ic_val a.fr b.fr; unfold cpI at h; omega
theorem sortG : SortG Try.prog 48 2 := ⟨fun β _ enc hk h1 cf hO g cb blk off cap d w eg hc hH hb hs => AnyQ.slices_SortFunc Try.sortP 2 Try.isAgg32 Try.sizeOf32 enc hk h1 cf hO g cb blk off cap d w eg hc hH hb hs, fun p cap fv w => AnyF.slices_SortFunc_none Try.sortP p cap fv w⟩
theorem sortD : SortOkD Try.prog 48 49 [] 2 eIv (fun _ => True) (ltOf cpI) := sortOkD_of sortG (fun _ => rfl) (swo_of cpI_neg cpI_tq) (enters_of Try.func49 (by kernel_rfl) rfl) (fun x y _ _ => cpC x y)
set_option maxHeartbeats 4000000 in
set_option maxRecDepth 100000 in
theorem vlI (i : Ivl) : Ctr Try.prog 47 [.ag (eIv i)] (.d (.fl (.bool (vI i)))) := by
  refine ctr (n := 18) (rs := #[.tmp 2]) (L := [(0, .d (.ag (eIv i)))]) Try.func47 rfl rfl rfl rfl rfl (fun w0 U0 => ?_)
  refine a_rseq ?_
  refine rg_nam (d := 1) (v := .pt 101 0) (m := 101) (nw := [(101, .bx 32 (eIv i))]) rfl (og rfl (of_eff (op_box 101 rfl rfl rfl rfl) rfl)) rfl ?_
  refine rg_put (d := 2) (v := .d (.fl (.bool false))) rfl (og rfl (op_assign rfl rfl rfl)) ?_
  refine rg_done rfl ?_
  refine a_rseq ?_
  refine rg_put (d := 3) (v := .pt 101 0) rfl (og rfl (of_eff (s_field_pt rfl Try.underlying32 rfl ti3 rfl rfl rfl) rfl)) ?_
  refine rg_put (d := 4) (v := .d (.fl (.int .i64 i.fr))) rfl (og rfl (op_load_pt rfl Try.underlying3 rfl rfl rfl rfl rfl)) ?_
  refine rg_put (d := 5) (v := .d (.fl (.bool ((decide (0 ≤ i.fr)))))) rfl (og rfl (op_bin rfl rfl rfl (b_leq _ _ _ _) rfl)) ?_
  refine rg_put (d := 6) (v := .d (.fl (.bool ((decide (0 ≤ i.fr)))))) rfl (og rfl (op_move rfl rfl rfl)) ?_
  rcases fot ((decide (0 ≤ i.fr))) with h1 | h1
  · skip
    have h2 := f_dec h1
    refine rg_put (d := 7) (v := .d (.fl undef)) rfl (on rfl rfl rfl h1) ?_
    refine rg_put (d := 8) (v := .d (.fl undef)) rfl (on rfl rfl rfl h1) ?_
    refine rg_put (d := 9) (v := .d (.fl undef)) rfl (on rfl rfl rfl h1) ?_
    refine rg_put (d := 10) (v := .d (.fl undef)) rfl (on rfl rfl rfl h1) ?_
    refine rg_put (d := 11) (v := .d (.fl undef)) rfl (on rfl rfl rfl h1) ?_
    refine rg_put (d := 12) (v := .d (.fl (.bool false))) rfl (og rfl (op_pick rfl rfl (by rw [h1]; rfl) rfl)) ?_
    refine rg_put (d := 13) (v := .d (.fl (.bool false))) rfl (og rfl (op_move rfl rfl rfl)) ?_
    refine rg_put (d := 14) (v := .d (.fl undef)) rfl (on rfl rfl rfl rfl) ?_
    refine rg_put (d := 15) (v := .d (.fl undef)) rfl (on rfl rfl rfl rfl) ?_
    refine rg_put (d := 16) (v := .d (.fl undef)) rfl (on rfl rfl rfl rfl) ?_
    refine rg_put (d := 17) (v := .d (.fl (.bool false))) rfl (og rfl (op_pick rfl rfl rfl rfl)) ?_
    refine rg_put (d := 2) (v := .d (.fl (.bool false))) rfl (og rfl (op_assign rfl rfl rfl)) ?_
    refine rg_done rfl ?_
    refine a_ret ?_
    show ∃ ds, ResL _ _ _ ds ∧ RV.of ds = _
    refine ⟨[.fl (.bool false)], (.cons (.tmp rfl (.d _)) .nil), ?_⟩
    first
      | (have hu : vI i = false := by
          unfold vI; simp only [h1, Bool.true_or, Bool.false_or, Bool.or_true, Bool.or_false, Bool.not_true, Bool.not_false, cond_true, cond_false, Bool.true_and, Bool.false_and, Bool.and_true, Bool.and_false] <;> rfl
         rw [hu]; rfl)
      | (exfalso; omega)
  · skip
    have h3 := t_dec h1
    refine rg_put (d := 7) (v := .pt 101 0) rfl (oy rfl rfl rfl h1 (of_eff (s_field_pt rfl Try.underlying32 rfl ti3 rfl rfl rfl) rfl)) ?_
    refine rg_put (d := 8) (v := .d (.fl (.int .i64 i.fr))) rfl (oy rfl rfl rfl h1 (op_load_pt rfl Try.underlying3 rfl rfl rfl rfl rfl)) ?_
    refine rg_put (d := 9) (v := .pt 101 1) rfl (oy rfl rfl rfl h1 (of_eff (s_field_pt rfl Try.underlying32 rfl ti3 rfl rfl rfl) rfl)) ?_
    refine rg_put (d := 10) (v := .d (.fl (.int .i64 i.to))) rfl (oy rfl rfl rfl h1 (op_load_pt rfl Try.underlying3 rfl rfl rfl rfl rfl)) ?_
    refine rg_put (d := 11) (v := .d (.fl (.bool ((decide (i.fr < i.to)))))) rfl (oy rfl rfl rfl h1 (op_bin rfl rfl rfl (b_lss _ _ _ _) rfl)) ?_
    refine rg_put (d := 12) (v := .d (.fl (.bool ((decide (i.fr < i.to)))))) rfl (og rfl (op_pick rfl rfl (by rw [h1]; rfl) rfl)) ?_
    refine rg_put (d := 13) (v := .d (.fl (.bool ((decide (i.fr < i.to)))))) rfl (og rfl (op_move rfl rfl rfl)) ?_
    rcases fot ((decide (i.fr < i.to))) with h4 | h4
    · skip
      have h5 := f_dec h4
      refine rg_put (d := 14) (v := .d (.fl undef)) rfl (on rfl rfl rfl h4) ?_
      refine rg_put (d := 15) (v := .d (.fl undef)) rfl (on rfl rfl rfl h4) ?_
      refine rg_put (d := 16) (v := .d (.fl undef)) rfl (on rfl rfl rfl h4) ?_
      refine rg_put (d := 17) (v := .d (.fl (.bool false))) rfl (og rfl (op_pick rfl rfl (by rw [h4]; rfl) rfl)) ?_
      refine rg_put (d := 2) (v := .d (.fl (.bool false))) rfl (og rfl (op_assign rfl rfl rfl)) ?_
      refine rg_done rfl ?_
      refine a_ret ?_
      show ∃ ds, ResL _ _ _ ds ∧ RV.of ds = _
      refine ⟨[.fl (.bool false)], (.cons (.tmp rfl (.d _)) .nil), ?_⟩
      first
        | (have hu : vI i = false := by
            unfold vI; simp only [h1, h4, Bool.true_or, Bool.false_or, Bool.or_true, Bool.or_false, Bool.not_true, Bool.not_false, cond_true, cond_false, Bool.true_and, Bool.false_and, Bool.and_true, Bool.and_false] <;> rfl
           rw [hu]; rfl)
        | (exfalso; omega)
    · skip
      have h6 := t_dec h4
      refine rg_put (d := 14) (v := .pt 101 1) rfl (oy rfl rfl rfl h4 (of_eff (s_field_pt rfl Try.underlying32 rfl ti3 rfl rfl rfl) rfl)) ?_
      refine rg_put (d := 15) (v := .d (.fl (.int .i64 i.to))) rfl (oy rfl rfl rfl h4 (op_load_pt rfl Try.underlying3 rfl rfl rfl rfl rfl)) ?_
      refine rg_put (d := 16) (v := .d (.fl (.bool ((decide (i.to ≤ 68719476736)))))) rfl (oy rfl rfl rfl h4 (op_bin rfl rfl rfl (b_leq _ _ _ _) rfl)) ?_
      refine rg_put (d := 17) (v := .d (.fl (.bool ((decide (i.to ≤ 68719476736)))))) rfl (og rfl (op_pick rfl rfl (by rw [h4]; rfl) rfl)) ?_
      refine rg_put (d := 2) (v := .d (.fl (.bool ((decide (i.to ≤ 68719476736)))))) rfl (og rfl (op_assign rfl rfl rfl)) ?_
      refine rg_done rfl ?_
      refine a_ret ?_
      show ∃ ds, ResL _ _ _ ds ∧ RV.of ds = _
      refine ⟨[.fl (.bool ((decide (i.to ≤ 68719476736))))], (.cons (.tmp rfl (.d _)) .nil), ?_⟩
      first
        | (have hu : vI i = (decide (i.to ≤ 68719476736)) := by
            unfold vI; simp only [h1, h4, Bool.true_or, Bool.false_or, Bool.or_true, Bool.or_false, Bool.not_true, Bool.not_false, cond_true, cond_false, Bool.true_and, Bool.false_and, Bool.and_true, Bool.and_false] <;> rfl
           rw [hu]; rfl)
        | (exfalso; omega)
def vls (l : List Ivl) (k : Nat) : List Ivl := (l.take k).filter vI
theorem vls_s {l : List Ivl} {k : Nat} (h : k < l.length) : vls l (k + 1) = if vI (ix l k) = true then vls l k ++ [ix l k] else vls l k := by
  unfold vls
  rw [take_ix h, List.filter_append]
  by_cases hv : vI (ix l k) = true
  · rw [if_pos hv]; simp [hv]
  · rw [if_neg hv]; simp [hv]
theorem vls_len (l : List Ivl) (k : Nat) : (vls l k).length ≤ k := by
  have := List.length_filter_le vI (l.take k)
  unfold vls
  rw [List.length_take] at this; omega
theorem vls_all (l : List Ivl) : vls l l.length = l.filter vI := by unfold vls; rw [List.take_length]
set_option maxHeartbeats 4000000 in
set_option maxRecDepth 100000 in
theorem join44 (l : List Ivl) (hl : l.length ≤ 1000000) : Ctr Try.prog 44 [.sl 1 (List.map (rL 2 eIv) [l])] (.d (.sl 2 (List.map eIv (nrm l)))) := by
  refine ctr (n := 76) (rs := #[.tmp 2]) (L := [(0, .d (.sl 1 (List.map (rL 2 eIv) [l])))]) Try.func44 rfl rfl rfl rfl rfl (fun w0 U0 => ?_)
  refine a_rseq ?_
  refine rg_put (d := 2) (v := .d (.fl (.slice none 0 0))) rfl (og rfl (op_assign rfl rfl rfl)) ?_
  refine rg_done rfl ?_
  refine a_rseq ?_
  refine rg_put (d := 3) (v := .d (.fl (.slice none 0 0))) rfl (og rfl (op_assign rfl rfl rfl)) ?_
  refine rg_done rfl ?_
  refine a_seq ?_
  refine a_rseq ?_
  refine rg_imp (imp_nilT 3 101 32 2 rfl rfl) ?_
  refine rg_put (d := 11) (v := .d (.sl 1 (List.map (rL 2 eIv) [l]))) rfl (og rfl (op_move rfl rfl rfl)) ?_
  refine rg_put (d := 12) (v := .d (.fl (.int .i64 ([l].length : Int)))) rfl (og rfl (s_len rfl Try.underlying75 rfl rfl)) ?_
  refine rg_put (d := 13) (v := .d (.fl (.int .i64 0))) rfl (og rfl (op_move rfl rfl rfl)) ?_
  refine rg_done rfl ?_
  refine a_block ?_
  refine a_rounds (n := 1000000) ?_
  refine ard_succ ?_
  refine a_imp (τ := SS [(0, .d (.sl 1 (List.map (rL 2 eIv) [l]))), (2, .d (.fl (.slice none 0 0))), (3, .ow 101), (11, .d (.sl 1 (List.map (rL 2 eIv) [l]))), (12, .d (.fl (.int .i64 ([l].length : Int)))), (13, .d (.fl (.int .i64 0)))] [(101, .tr 32 2 (tD eIv []))]) (imp_forget rfl ⟨rfl, rfl, rfl, rfl, rfl, rfl, trivial⟩ ⟨rfl, trivial⟩) ?_
  refine a_rseq ?_
  refine rg_put (d := 14) (v := .d (.fl (.bool ((decide (0 < ([l].length : Int))))))) rfl (og rfl (op_bin rfl rfl rfl (b_lss _ _ _ _) rfl)) ?_
  refine rg_done rfl ?_
  refine a_seq ?_
  refine a_condK rfl (show (decide (0 < ([l].length : Int))) = true from rfl) ?_
  refine a_skip ?_
  show A _ _ _ _ _ _ _
  refine a_seq ?_
  refine a_block ?_
  refine a_rseq ?_
  refine rg_put (d := 15) (v := .el (((rL 2 eIv) (ix [l] 0)))) rfl (og rfl (s_index rfl Try.underlying75 ti34 rfl rfl (by first | omega | (simp only [List.length_singleton]; omega)) (row_at (by first | omega | (simp only [List.length_singleton]; omega))) rfl)) ?_
  refine rg_put (d := 16) (v := .d (.sl 2 (List.map eIv (ix [l] 0)))) rfl (og rfl (op_load_el rfl Try.underlying34 rfl rfl rfl rfl)) ?_
  refine rg_put (d := 5) (v := .d (.sl 2 (List.map eIv (ix [l] 0)))) rfl (og rfl (op_assign rfl rfl rfl)) ?_
  rw [show (ix [l] 0) = l from rfl]
  refine rg_done rfl ?_
  refine a_rseq ?_
  refine rg_put (d := 17) (v := .d (.sl 2 (List.map eIv l))) rfl (og rfl (op_move rfl rfl rfl)) ?_
  refine rg_put (d := 18) (v := .d (.fl (.int .i64 (l.length : Int)))) rfl (og rfl (s_len rfl Try.underlying34 rfl rfl)) ?_
  refine rg_put (d := 19) (v := .d (.fl (.int .i64 0))) rfl (og rfl (op_move rfl rfl rfl)) ?_
  refine rg_done rfl ?_
  refine a_block ?_
  refine a_loop (ι := Nat) (fun k => SS [(0, .d (.sl 1 (List.map (rL 2 eIv) [l]))), (2, .d (.fl (.slice none 0 0))), (5, .d (.sl 2 (List.map eIv l))), (11, .d (.sl 1 (List.map (rL 2 eIv) [l]))), (12, .d (.fl (.int .i64 ([l].length : Int)))), (13, .d (.fl (.int .i64 0))), (14, .d (.fl (.bool ((decide (0 < ([l].length : Int))))))), (17, .d (.sl 2 (List.map eIv l))), (18, .d (.fl (.int .i64 (l.length : Int)))), (19, .d (.fl (.int .i64 (k : Int)))), (3, .ow 101)] [(101, .tr 32 2 (tD eIv (vls l k)))]) (fun k => k ≤ l.length) (fun k => l.length - k) 0 (by omega) (imp_forget rfl ⟨rfl, rfl, rfl, rfl, rfl, rfl, rfl, rfl, rfl, rfl, rfl, trivial⟩ ⟨rfl, trivial⟩) (fun k hok => ?_)
  have hk := hok
  have hvl := vls_len l k
  refine a_rseq ?_
  refine rg_put (d := 20) (v := .d (.fl (.bool ((decide ((k : Int) < (l.length : Int))))))) rfl (og rfl (op_bin rfl rfl rfl (b_lss _ _ _ _) rfl)) ?_
  refine rg_done rfl ?_
  refine a_seq ?_
  refine a_cond rfl (fun h1 => ?_) (fun h1 => ?_)
  · skip
    have h2 := t_dec h1
    refine a_skip ?_
    show A _ _ _ _ _ _ _
    refine a_seq ?_
    refine a_block ?_
    refine a_rseq ?_
    refine rg_put (d := 21) (v := .el ((eIv (ix l k)))) rfl (og rfl (s_index rfl Try.underlying34 ti32 rfl rfl (by first | omega | (simp only [List.length_singleton]; omega)) (row_at (by first | omega | (simp only [List.length_singleton]; omega))) rfl)) ?_
    refine rg_put (d := 22) (v := .d (.ag (eIv (ix l k)))) rfl (og rfl (of_eff (s_load_els rfl Try.underlying32 rfl ti32 rfl rfl rfl) rfl)) ?_
    refine rg_nam (d := 7) (v := .pt 102 0) (m := 102) (nw := [(102, .bx 32 [.fl (.int .i64 0), .fl (.int .i64 0)])]) rfl (og rfl (of_eff (s_alloc 102 rfl ti32 (by kernel_rfl) rfl) rfl)) rfl ?_
    refine rg_sto (nw := [(102, .bx 32 ((eIv (ix l k))))]) rfl (og rfl (of_eff (s_store rfl rfl ti32 rfl rfl rfl rfl rfl rfl) rfl)) ?_
    refine rg_done rfl ?_
    refine a_rseq ?_
    refine rg_put (d := 23) (v := .d (.ag (eIv (ix l k)))) rfl (og rfl (of_eff (s_load_pts rfl Try.underlying32 rfl ti32 rfl rfl rfl rfl) rfl)) ?_
    refine rg_put (d := 24) (v := .d (.fl (.bool ((vI (ix l k)))))) rfl (og rfl (op_call rfl Try.func47 nm47 rfl (.cons rfl (.d _) .nil) (vlI (ix l k)) rfl)) ?_
    refine rg_done rfl ?_
    refine a_cond rfl (fun h3 => ?_) (fun h3 => ?_)
    · skip
      refine a_region ?_
      refine rg_put (d := 25) (v := .ow 101) rfl (og rfl (op_move rfl rfl rfl)) ?_
      refine rg_put (d := 26) (v := .d (.ag (eIv (ix l k)))) rfl (og rfl (of_eff (s_load_pts rfl Try.underlying32 rfl ti32 rfl rfl rfl rfl) rfl)) ?_
      refine rg_put (d := 27) (v := .d (.sl 2 (List.map eIv [(ix l k)]))) rfl (og rfl (of_eff (op_slices rfl Try.underlying34 ti32 rfl rfl rfl (by kernel_rfl) (xs := [.ag (eIv (ix l k))]) rfl rfl (.cons rfl rfl (.d _) rfl rfl rfl .nil) rfl) rfl)) ?_
      refine rg_nam (d := 28) (v := .ow 103) (m := 103) (nw := [(103, .tr 32 2 (tD eIv (((vls l k) ++ [(ix l k)])))), (101, .no)]) rfl (og rfl (of_eff (s_append_td 103 rfl Try.underlying34 ti32 rfl rfl rfl rfl rfl (.d _) (by simp only [List.length_append, List.length_cons, List.length_nil]; omega) rfl) rfl)) rfl ?_
      refine rg_put (d := 3) (v := .ow 103) rfl (og rfl (op_assign rfl rfl rfl)) ?_
      refine rg_done rfl ?_
      show A _ _ _ _ _ _ _
      refine a_region ?_
      refine rg_put (d := 29) (v := .d (.fl (.int .i64 (((k : Int) + 1))))) rfl (og rfl (op_bin rfl rfl rfl (fun x y w => b_add64 _ _ _ x y w (by first | omega | (simp only [List.length_singleton]; omega))) rfl)) ?_
      refine rg_put (d := 19) (v := .d (.fl (.int .i64 (((k : Int) + 1))))) rfl (og rfl (op_move rfl rfl rfl)) ?_
      refine rg_done rfl ?_
      show ∃ i, _ ∧ _ ∧ Imp _ _ _ _ _
      refine ⟨k + 1, (by omega), by omega, imp_ren (fun m => bif Nat.beq m 101 then 103 else m) rfl ⟨rfl, rfl, rfl, rfl, rfl, rfl, rfl, rfl, rfl, (ci (by omega)), rfl, trivial⟩ ⟨(congrArg (fun z => Ob.tr 32 2 (tD eIv z)) (show vls l k ++ [ix l k] = vls l (k + 1) from by rw [vls_s (by omega), if_pos h3])), trivial⟩⟩
    · skip
      refine a_skip ?_
      show A _ _ _ _ _ _ _
      refine a_region ?_
      refine rg_put (d := 29) (v := .d (.fl (.int .i64 (((k : Int) + 1))))) rfl (og rfl (op_bin rfl rfl rfl (fun x y w => b_add64 _ _ _ x y w (by first | omega | (simp only [List.length_singleton]; omega))) rfl)) ?_
      refine rg_put (d := 19) (v := .d (.fl (.int .i64 (((k : Int) + 1))))) rfl (og rfl (op_move rfl rfl rfl)) ?_
      refine rg_done rfl ?_
      show ∃ i, _ ∧ _ ∧ Imp _ _ _ _ _
      refine ⟨k + 1, (by omega), by omega, imp_forget rfl ⟨rfl, rfl, rfl, rfl, rfl, rfl, rfl, rfl, rfl, (ci (by omega)), rfl, trivial⟩ ⟨(congrArg (fun z => Ob.tr 32 2 (tD eIv z)) (show vls l k = vls l (k + 1) from by rw [vls_s (by omega), if_neg (by rw [h3]; decide)])), trivial⟩⟩
  · skip
    have h4 := f_dec h1
    refine a_exit ?_
    show A _ _ _ _ _ _ _
    refine a_region ?_
    refine rg_put (d := 30) (v := .d (.fl (.int .i64 (0 + 1)))) rfl (og rfl (op_bin rfl rfl rfl (fun x y w => b_add64 _ _ _ x y w (by first | omega | (simp only [List.length_singleton]; omega))) rfl)) ?_
    refine rg_put (d := 13) (v := .d (.fl (.int .i64 (0 + 1)))) rfl (og rfl (op_move rfl rfl rfl)) ?_
    refine rg_done rfl ?_
    show ARd _ _ _ _ _ _ _ _
    refine ard_succ ?_
    refine a_imp (τ := SS [(0, .d (.sl 1 (List.map (rL 2 eIv) [l]))), (2, .d (.fl (.slice none 0 0))), (3, .ow 101), (5, .d (.sl 2 (List.map eIv l))), (11, .d (.sl 1 (List.map (rL 2 eIv) [l]))), (12, .d (.fl (.int .i64 ([l].length : Int)))), (13, .d (.fl (.int .i64 (0 + 1)))), (14, .d (.fl (.bool ((decide (0 < ([l].length : Int))))))), (17, .d (.sl 2 (List.map eIv l))), (18, .d (.fl (.int .i64 (l.length : Int)))), (19, .d (.fl (.int .i64 (k : Int)))), (20, .d (.fl (.bool ((decide ((k : Int) < (l.length : Int)))))))] [(101, .tr 32 2 (tD eIv (vls l k)))]) (imp_forget rfl ⟨rfl, rfl, rfl, rfl, rfl, rfl, rfl, rfl, rfl, rfl, rfl, rfl, trivial⟩ ⟨rfl, trivial⟩) ?_
    refine a_rseq ?_
    refine rg_put (d := 14) (v := .d (.fl (.bool ((decide ((0 + 1) < ([l].length : Int))))))) rfl (og rfl (op_bin rfl rfl rfl (b_lss _ _ _ _) rfl)) ?_
    refine rg_done rfl ?_
    refine a_seq ?_
    refine a_condF rfl (show (decide ((0 + 1) < ([l].length : Int))) = false from rfl) ?_
    refine a_exit ?_
    show A _ _ _ _ _ _ _
    refine a_rseq ?_
    have hkl0 : k = l.length := by omega
    rw [show (vls l k) = (l.filter vI) from (by rw [hkl0, vls_all])]
    have hfl := List.length_filter_le vI l
    refine rg_put (d := 31) (v := .ow 101) rfl (og rfl (op_move rfl rfl rfl)) ?_
    refine rg_sortE rfl rfl rfl rfl (by rfl) Try.func48 nm48 rfl rfl rfl rfl (fun _ => rfl) (p := fun _ => True) (fun _ _ => trivial) sortD (by first | omega | (simp only [List.length_singleton]; omega)) (fun l' hp hs => ?_)
    have hpm : l'.Perm (l.filter vI) := hp
    have hsm : l'.Pairwise (fun a b => a.fr ≤ b.fr) := hs.imp (fun h => cpI_le (le_of_sorted cpI_neg h))
    have hll : l'.length ≤ l.length := by have h1 := hpm.length_eq; have h2 := List.length_filter_le vI l; omega
    refine rg_done rfl ?_
    refine a_rseq ?_
    refine rg_put (d := 8) (v := .d (.fl (.int .i64 0))) rfl (og rfl (op_assign rfl rfl rfl)) ?_
    refine rg_done rfl ?_
    refine a_seq ?_
    refine a_rseq ?_
    refine rg_put (d := 33) (v := .ow 101) rfl (og rfl (op_move rfl rfl rfl)) ?_
    refine rg_put (d := 34) (v := .d (.fl (.int .i64 (((l').length : Int))))) rfl (og rfl (op_len_tr rfl Try.underlying34 rfl rfl tD_len rfl)) ?_
    refine rg_put (d := 35) (v := .d (.fl (.int .i64 0))) rfl (og rfl (op_move rfl rfl rfl)) ?_
    refine rg_done rfl ?_
    refine a_block ?_
    refine a_loop (ι := Nat) (fun n => SS [(0, .d (.sl 1 (List.map (rL 2 eIv) [l]))), (2, .d (.fl (.slice none 0 0))), (3, .ow 101), (5, .d (.sl 2 (List.map eIv l))), (11, .d (.sl 1 (List.map (rL 2 eIv) [l]))), (12, .d (.fl (.int .i64 ([l].length : Int)))), (33, .ow 101), (34, .d (.fl (.int .i64 (((l').length : Int))))), (35, .d (.fl (.int .i64 (n : Int)))), (8, .d (.fl (.int .i64 (((mg l' n).length : Int)))))] [(101, .tr 32 2 (tD eIv (rwM l' n)))]) (fun n => n ≤ l'.length) (fun n => l'.length - n) 0 (by omega) (imp_forget rfl ⟨rfl, rfl, rfl, rfl, rfl, rfl, rfl, rfl, rfl, rfl, trivial⟩ ⟨rfl, trivial⟩) (fun n hok => ?_)
    have hn := hok
    have hrl := rwM_len hn
    have hmg := mg_len l' n
    refine a_rseq ?_
    refine rg_put (d := 36) (v := .d (.fl (.bool ((decide ((n : Int) < ((l').length : Int))))))) rfl (og rfl (op_bin rfl rfl rfl (b_lss _ _ _ _) rfl)) ?_
    refine rg_done rfl ?_
    refine a_seq ?_
    refine a_cond rfl (fun h5 => ?_) (fun h5 => ?_)
    · skip
      have h6 := t_dec h5
      refine a_skip ?_
      show A _ _ _ _ _ _ _
      refine a_seq ?_
      refine a_block ?_
      refine a_rseq ?_
      refine rg_put (d := 37) (v := .pe 101 2 n 0) rfl (og rfl (op_index_tr rfl Try.underlying34 ti32 rfl rfl rfl (get_lt (tD_at (by first | omega | (simp only [List.length_singleton]; omega)))) rfl)) ?_
      refine rg_put (d := 38) (v := .d (.ag (eIv ((Ivl.mk (((ix (rwM l' n) n)).fr) (((ix (rwM l' n) n)).to)))))) rfl (og rfl (of_eff (op_load_pes rfl Try.underlying32 rfl ti32 rfl rfl (tD_at (by first | omega | (simp only [List.length_singleton]; omega))) rfl rfl rfl) rfl)) ?_
      refine rg_nam (d := 10) (v := .pt 104 0) (m := 104) (nw := [(104, .bx 32 [.fl (.int .i64 0), .fl (.int .i64 0)])]) rfl (og rfl (of_eff (s_alloc 104 rfl ti32 (by kernel_rfl) rfl) rfl)) rfl ?_
      refine rg_sto (nw := [(104, .bx 32 ((eIv ((Ivl.mk (((ix (rwM l' n) n)).fr) (((ix (rwM l' n) n)).to))))))]) rfl (og rfl (of_eff (s_store rfl rfl ti32 rfl rfl rfl rfl rfl rfl) rfl)) ?_
      refine rg_done rfl ?_
      refine a_dseq (by kernel_rfl) ?_
      refine dr_put (d := 39) (v := .d (.fl (.int .i64 (((mg l' n).length : Int))))) rfl (og rfl (op_move rfl rfl rfl)) ?_
      refine dr_put (d := 40) (v := .d (.fl (.bool ((decide (0 < ((mg l' n).length : Int))))))) rfl (og rfl (op_bin rfl rfl rfl (b_gtr _ _ _ _) rfl)) ?_
      refine dr_put (d := 41) (v := .d (.fl (.bool ((decide (0 < ((mg l' n).length : Int))))))) rfl (og rfl (op_move rfl rfl rfl)) ?_
      rcases fot ((decide (0 < ((mg l' n).length : Int)))) with h7 | h7
      · skip
        have h8 := f_dec h7
        refine dr_put (d := 42) (v := .d (.fl undef)) rfl (on rfl rfl rfl h7) ?_
        refine dr_put (d := 43) (v := .d (.fl undef)) rfl (on rfl rfl rfl h7) ?_
        refine dr_put (d := 44) (v := .d (.fl undef)) rfl (on rfl rfl rfl h7) ?_
        refine dr_put (d := 45) (v := .d (.fl undef)) rfl (on rfl rfl rfl h7) ?_
        refine dr_put (d := 46) (v := .d (.fl undef)) rfl (on rfl rfl rfl h7) ?_
        refine dr_put (d := 47) (v := .d (.fl undef)) rfl (on rfl rfl rfl h7) ?_
        refine dr_put (d := 48) (v := .d (.fl undef)) rfl (on rfl rfl rfl h7) ?_
        refine dr_put (d := 49) (v := .d (.fl undef)) rfl (on rfl rfl rfl h7) ?_
        refine dr_put (d := 50) (v := .d (.fl undef)) rfl (on rfl rfl rfl h7) ?_
        refine dr_put (d := 51) (v := .d (.fl (.bool false))) rfl (og rfl (op_pick rfl rfl (by rw [h7]; rfl) rfl)) ?_
        refine dr_done rfl (by kernel_rfl) (by kernel_rfl) ?_
        refine a_condF rfl rfl ?_
        refine a_rseq ?_
        refine rg_put (d := 66) (v := .ow 101) rfl (og rfl (op_move rfl rfl rfl)) ?_
        refine rg_put (d := 67) (v := .d (.fl (.int .i64 (((mg l' n).length : Int))))) rfl (og rfl (op_move rfl rfl rfl)) ?_
        refine rg_put (d := 68) (v := .d (.ag (eIv (((Ivl.mk (((ix (rwM l' n) n)).fr) (((ix (rwM l' n) n)).to))))))) rfl (og rfl (of_eff (s_load_pts rfl Try.underlying32 rfl ti32 rfl rfl rfl rfl) rfl)) ?_
        refine rg_put (d := 69) (v := .pe 101 2 ((mg l' n).length) 0) rfl (og rfl (op_index_tr rfl Try.underlying34 ti32 rfl rfl rfl (get_lt (tD_at (by first | omega | (simp only [List.length_singleton]; omega)))) rfl)) ?_
        refine rg_sto (nw := [(101, .tr 32 2 ((((tD eIv (rwM l' n))).set ((mg l' n).length) [.dv (.fl (.int .i64 ((((Ivl.mk (((ix (rwM l' n) n)).fr) (((ix (rwM l' n) n)).to)))).fr))), .dv (.fl (.int .i64 ((((Ivl.mk (((ix (rwM l' n) n)).fr) (((ix (rwM l' n) n)).to)))).to)))])))]) rfl (og rfl (of_eff (op_store_pe rfl rfl ti32 rfl rfl (tD_at (by first | omega | (simp only [List.length_singleton]; omega))) rfl (.d rfl) rfl rfl rfl) rfl)) ?_
        refine rg_done rfl ?_
        refine a_region ?_
        refine rg_put (d := 70) (v := .d (.fl (.int .i64 (((mg l' n).length : Int))))) rfl (og rfl (op_move rfl rfl rfl)) ?_
        refine rg_put (d := 71) (v := .d (.fl (.int .i64 ((((mg l' n).length : Int) + 1))))) rfl (og rfl (op_bin rfl rfl rfl (fun x y w => b_add64 _ _ _ x y w (by first | omega | (simp only [List.length_singleton]; omega))) rfl)) ?_
        refine rg_put (d := 8) (v := .d (.fl (.int .i64 ((((mg l' n).length : Int) + 1))))) rfl (og rfl (op_assign rfl rfl rfl)) ?_
        refine rg_done rfl ?_
        show A _ _ _ _ _ _ _
        refine a_region ?_
        refine rg_put (d := 72) (v := .d (.fl (.int .i64 (((n : Int) + 1))))) rfl (og rfl (op_bin rfl rfl rfl (fun x y w => b_add64 _ _ _ x y w (by first | omega | (simp only [List.length_singleton]; omega))) rfl)) ?_
        refine rg_put (d := 35) (v := .d (.fl (.int .i64 (((n : Int) + 1))))) rfl (og rfl (op_move rfl rfl rfl)) ?_
        refine rg_done rfl ?_
        have hxk : ix (rwM l' n) n = ix l' n := rwM_ix (by omega)
        have hcc : ¬ (0 < (mg l' n).length ∧ (ix l' n).fr ≤ (ix (mg l' n) ((mg l' n).length - 1)).to) := fun h => by omega
        have hml := (rwM_new hcc).2
        have hst : (((tD eIv (rwM l' n))).set ((mg l' n).length) [.dv (.fl (.int .i64 ((((Ivl.mk (((ix (rwM l' n) n)).fr) (((ix (rwM l' n) n)).to)))).fr))), .dv (.fl (.int .i64 ((((Ivl.mk (((ix (rwM l' n) n)).fr) (((ix (rwM l' n) n)).to)))).to)))]) = tD eIv (rwM l' (n + 1)) := (tD_set (x := (ix (rwM l' n) n)) rfl).trans (by rw [hxk]; exact congrArg (tD eIv) (rwM_set2 (by omega) hcc))
        show ∃ i, _ ∧ _ ∧ Imp _ _ _ _ _
        refine ⟨n + 1, (by omega), by omega, imp_forget rfl ⟨rfl, rfl, rfl, rfl, rfl, rfl, rfl, rfl, (ci (by omega)), (ci (by omega)), trivial⟩ ⟨(congrArg (fun z => Ob.tr 32 2 z) hst), trivial⟩⟩
      · skip
        have h9 := t_dec h7
        refine dr_put (d := 42) (v := .pt 104 0) rfl (oy rfl rfl rfl h7 (of_eff (s_field_pt rfl Try.underlying32 rfl ti3 rfl rfl rfl) rfl)) ?_
        refine dr_put (d := 43) (v := .d (.fl (.int .i64 (((Ivl.mk (((ix (rwM l' n) n)).fr) (((ix (rwM l' n) n)).to))).fr)))) rfl (oy rfl rfl rfl h7 (op_load_pt rfl Try.underlying3 rfl rfl rfl rfl rfl)) ?_
        refine dr_put (d := 44) (v := .ow 101) rfl (oy rfl rfl rfl h7 (op_move rfl rfl rfl)) ?_
        refine dr_put (d := 45) (v := .d (.fl (.int .i64 (((mg l' n).length : Int))))) rfl (oy rfl rfl rfl h7 (op_move rfl rfl rfl)) ?_
        refine dr_put (d := 46) (v := .d (.fl (.int .i64 ((((mg l' n).length : Int) - 1))))) rfl (oy rfl rfl rfl h7 (op_bin rfl rfl rfl (fun x y w => b_sub64 _ _ _ x y w (by first | omega | (simp only [List.length_singleton]; omega))) rfl)) ?_
        refine dr_put (d := 47) (v := .pe 101 2 (((((mg l' n).length : Int) - 1)).toNat) 0) rfl (oy rfl rfl rfl h7 (op_index_trI rfl Try.underlying34 ti32 rfl rfl rfl (by first | omega | (simp only [List.length_singleton]; omega)) (get_lt (tD_at (by first | omega | (simp only [List.length_singleton]; omega)))) rfl)) ?_
        refine dr_put (d := 48) (v := .pe 101 2 (((((mg l' n).length : Int) - 1)).toNat) 1) rfl (oy rfl rfl rfl h7 (of_eff (op_field_pe rfl Try.underlying32 rfl ti3 rfl rfl rfl) rfl)) ?_
        refine dr_put (d := 49) (v := .d (.fl (.int .i64 (((ix (rwM l' n) (((((mg l' n).length : Int) - 1)).toNat))).to)))) rfl (oy rfl rfl rfl h7 (of_eff (op_load_pe rfl Try.underlying3 rfl rfl rfl (tD_at (by first | omega | (simp only [List.length_singleton]; omega))) rfl rfl) rfl)) ?_
        refine dr_put (d := 50) (v := .d (.fl (.bool ((decide (((Ivl.mk (((ix (rwM l' n) n)).fr) (((ix (rwM l' n) n)).to))).fr ≤ ((ix (rwM l' n) (((((mg l' n).length : Int) - 1)).toNat))).to)))))) rfl (oy rfl rfl rfl h7 (op_bin rfl rfl rfl (b_leq _ _ _ _) rfl)) ?_
        refine dr_put (d := 51) (v := .d (.fl (.bool ((decide (((Ivl.mk (((ix (rwM l' n) n)).fr) (((ix (rwM l' n) n)).to))).fr ≤ ((ix (rwM l' n) (((((mg l' n).length : Int) - 1)).toNat))).to)))))) rfl (og rfl (op_pick rfl rfl (by rw [h7]; rfl) rfl)) ?_
        refine dr_done rfl (by kernel_rfl) (by kernel_rfl) ?_
        refine a_cond rfl (fun h10 => ?_) (fun h10 => ?_)
        · skip
          have h11 := t_dec h10
          refine a_draw (by kernel_rfl) ?_
          refine dr_put (d := 52) (v := .ow 101) rfl (og rfl (op_move rfl rfl rfl)) ?_
          refine dr_put (d := 53) (v := .d (.fl (.int .i64 (((mg l' n).length : Int))))) rfl (og rfl (op_move rfl rfl rfl)) ?_
          refine dr_put (d := 54) (v := .d (.fl (.int .i64 ((((mg l' n).length : Int) - 1))))) rfl (og rfl (op_bin rfl rfl rfl (fun x y w => b_sub64 _ _ _ x y w (by first | omega | (simp only [List.length_singleton]; omega))) rfl)) ?_
          refine dr_put (d := 55) (v := .ow 101) rfl (og rfl (op_move rfl rfl rfl)) ?_
          refine dr_put (d := 56) (v := .d (.fl (.int .i64 (((mg l' n).length : Int))))) rfl (og rfl (op_move rfl rfl rfl)) ?_
          refine dr_put (d := 57) (v := .d (.fl (.int .i64 ((((mg l' n).length : Int) - 1))))) rfl (og rfl (op_bin rfl rfl rfl (fun x y w => b_sub64 _ _ _ x y w (by first | omega | (simp only [List.length_singleton]; omega))) rfl)) ?_
          refine dr_put (d := 58) (v := .pe 101 2 (((((mg l' n).length : Int) - 1)).toNat) 0) rfl (og rfl (op_index_trI rfl Try.underlying34 ti32 rfl rfl rfl (by first | omega | (simp only [List.length_singleton]; omega)) (get_lt (tD_at (by first | omega | (simp only [List.length_singleton]; omega)))) rfl)) ?_
          refine dr_put (d := 59) (v := .pe 101 2 (((((mg l' n).length : Int) - 1)).toNat) 1) rfl (og rfl (of_eff (op_field_pe rfl Try.underlying32 rfl ti3 rfl rfl rfl) rfl)) ?_
          refine dr_put (d := 60) (v := .d (.fl (.int .i64 (((ix (rwM l' n) (((((mg l' n).length : Int) - 1)).toNat))).to)))) rfl (og rfl (of_eff (op_load_pe rfl Try.underlying3 rfl rfl rfl (tD_at (by first | omega | (simp only [List.length_singleton]; omega))) rfl rfl) rfl)) ?_
          refine dr_put (d := 61) (v := .pt 104 1) rfl (og rfl (of_eff (s_field_pt rfl Try.underlying32 rfl ti3 rfl rfl rfl) rfl)) ?_
          refine dr_put (d := 62) (v := .d (.fl (.int .i64 (((Ivl.mk (((ix (rwM l' n) n)).fr) (((ix (rwM l' n) n)).to))).to)))) rfl (og rfl (op_load_pt rfl Try.underlying3 rfl rfl rfl rfl rfl)) ?_
          refine dr_put (d := 63) (v := .d (.fl (.int .i64 ((max (((ix (rwM l' n) (((((mg l' n).length : Int) - 1)).toNat))).to) (((Ivl.mk (((ix (rwM l' n) n)).fr) (((ix (rwM l' n) n)).to))).to)))))) rfl (og rfl (op_max rfl rfl rfl rfl)) ?_
          refine dr_put (d := 64) (v := .pe 101 2 (((((mg l' n).length : Int) - 1)).toNat) 0) rfl (og rfl (op_index_trI rfl Try.underlying34 ti32 rfl rfl rfl (by first | omega | (simp only [List.length_singleton]; omega)) (get_lt (tD_at (by first | omega | (simp only [List.length_singleton]; omega)))) rfl)) ?_
          refine dr_put (d := 65) (v := .pe 101 2 (((((mg l' n).length : Int) - 1)).toNat) 1) rfl (og rfl (of_eff (op_field_pe rfl Try.underlying32 rfl ti3 rfl rfl rfl) rfl)) ?_
          refine dr_sto (nw := [(101, .tr 32 2 ((((tD eIv (rwM l' n))).set (((((mg l' n).length : Int) - 1)).toNat) [.dv (.fl (.int .i64 (((ix (rwM l' n) (((((mg l' n).length : Int) - 1)).toNat))).fr))), .dv (.fl (.int .i64 ((max (((ix (rwM l' n) (((((mg l' n).length : Int) - 1)).toNat))).to) (((Ivl.mk (((ix (rwM l' n) n)).fr) (((ix (rwM l' n) n)).to))).to)))))])))]) rfl (og rfl (of_eff (op_store_pe rfl rfl ti3 rfl rfl (tD_at (by first | omega | (simp only [List.length_singleton]; omega))) rfl (.d rfl) rfl rfl rfl) rfl)) ?_
          refine dr_done rfl (sepB_of [0, 0, 2, 0, 0, 16, 56, 120, 248, 0, 512, 2040, 4095, 8191, 16383] (by kernel_rfl)) (by kernel_rfl) ?_
          show A _ _ _ _ _ _ _
          refine a_region ?_
          refine rg_put (d := 72) (v := .d (.fl (.int .i64 (((n : Int) + 1))))) rfl (og rfl (op_bin rfl rfl rfl (fun x y w => b_add64 _ _ _ x y w (by first | omega | (simp only [List.length_singleton]; omega))) rfl)) ?_
          refine rg_put (d := 35) (v := .d (.fl (.int .i64 (((n : Int) + 1))))) rfl (og rfl (op_move rfl rfl rfl)) ?_
          refine rg_done rfl ?_
          have hxk : ix (rwM l' n) n = ix l' n := rwM_ix (by omega)
          have hpv : (((mg l' n).length : Int) - 1).toNat = (mg l' n).length - 1 := by omega
          have hpl : (ix (rwM l' n) (((mg l' n).length : Int) - 1).toNat) = ix (mg l' n) ((mg l' n).length - 1) := by rw [hpv]; exact rwM_lo (by omega)
          have hcc : (ix l' n).fr ≤ (ix (mg l' n) ((mg l' n).length - 1)).to := by have h := of_decide_eq_true h10; rw [hxk, hpl] at h; exact h
          have hml := (rwM_old (by omega) hcc).2
          have hst : (((tD eIv (rwM l' n))).set (((((mg l' n).length : Int) - 1)).toNat) [.dv (.fl (.int .i64 (((ix (rwM l' n) (((((mg l' n).length : Int) - 1)).toNat))).fr))), .dv (.fl (.int .i64 ((max (((ix (rwM l' n) (((((mg l' n).length : Int) - 1)).toNat))).to) (((Ivl.mk (((ix (rwM l' n) n)).fr) (((ix (rwM l' n) n)).to))).to)))))]) = tD eIv (rwM l' (n + 1)) := (tD_set (α := Ivl) (x := ⟨(ix (rwM l' n) (((mg l' n).length : Int) - 1).toNat).fr, max (ix (rwM l' n) (((mg l' n).length : Int) - 1).toNat).to (ix (rwM l' n) n).to⟩) rfl).trans (by rw [hpl, hxk, hpv]; exact congrArg (tD eIv) (rwM_set1 (by omega) (by omega) hcc rfl))
          show ∃ i, _ ∧ _ ∧ Imp _ _ _ _ _
          refine ⟨n + 1, (by omega), by omega, imp_forget rfl ⟨rfl, rfl, rfl, rfl, rfl, rfl, rfl, rfl, (ci (by omega)), (ci (by omega)), trivial⟩ ⟨(congrArg (fun z => Ob.tr 32 2 z) hst), trivial⟩⟩
        · skip
          have h12 := f_dec h10
          refine a_rseq ?_
          refine rg_put (d := 66) (v := .ow 101) rfl (og rfl (op_move rfl rfl rfl)) ?_
          refine rg_put (d := 67) (v := .d (.fl (.int .i64 (((mg l' n).length : Int))))) rfl (og rfl (op_move rfl rfl rfl)) ?_
          refine rg_put (d := 68) (v := .d (.ag (eIv (((Ivl.mk (((ix (rwM l' n) n)).fr) (((ix (rwM l' n) n)).to))))))) rfl (og rfl (of_eff (s_load_pts rfl Try.underlying32 rfl ti32 rfl rfl rfl rfl) rfl)) ?_
          refine rg_put (d := 69) (v := .pe 101 2 ((mg l' n).length) 0) rfl (og rfl (op_index_tr rfl Try.underlying34 ti32 rfl rfl rfl (get_lt (tD_at (by first | omega | (simp only [List.length_singleton]; omega)))) rfl)) ?_
          refine rg_sto (nw := [(101, .tr 32 2 ((((tD eIv (rwM l' n))).set ((mg l' n).length) [.dv (.fl (.int .i64 ((((Ivl.mk (((ix (rwM l' n) n)).fr) (((ix (rwM l' n) n)).to)))).fr))), .dv (.fl (.int .i64 ((((Ivl.mk (((ix (rwM l' n) n)).fr) (((ix (rwM l' n) n)).to)))).to)))])))]) rfl (og rfl (of_eff (op_store_pe rfl rfl ti32 rfl rfl (tD_at (by first | omega | (simp only [List.length_singleton]; omega))) rfl (.d rfl) rfl rfl rfl) rfl)) ?_
          refine rg_done rfl ?_
          refine a_region ?_
          refine rg_put (d := 70) (v := .d (.fl (.int .i64 (((mg l' n).length : Int))))) rfl (og rfl (op_move rfl rfl rfl)) ?_
          refine rg_put (d := 71) (v := .d (.fl (.int .i64 ((((mg l' n).length : Int) + 1))))) rfl (og rfl (op_bin rfl rfl rfl (fun x y w => b_add64 _ _ _ x y w (by first | omega | (simp only [List.length_singleton]; omega))) rfl)) ?_
          refine rg_put (d := 8) (v := .d (.fl (.int .i64 ((((mg l' n).length : Int) + 1))))) rfl (og rfl (op_assign rfl rfl rfl)) ?_
          refine rg_done rfl ?_
          show A _ _ _ _ _ _ _
          refine a_region ?_
          refine rg_put (d := 72) (v := .d (.fl (.int .i64 (((n : Int) + 1))))) rfl (og rfl (op_bin rfl rfl rfl (fun x y w => b_add64 _ _ _ x y w (by first | omega | (simp only [List.length_singleton]; omega))) rfl)) ?_
          refine rg_put (d := 35) (v := .d (.fl (.int .i64 (((n : Int) + 1))))) rfl (og rfl (op_move rfl rfl rfl)) ?_
          refine rg_done rfl ?_
          have hxk : ix (rwM l' n) n = ix l' n := rwM_ix (by omega)
          have hpv : (((mg l' n).length : Int) - 1).toNat = (mg l' n).length - 1 := by omega
          have hpl : (ix (rwM l' n) (((mg l' n).length : Int) - 1).toNat) = ix (mg l' n) ((mg l' n).length - 1) := by rw [hpv]; exact rwM_lo (by omega)
          have hcc : ¬ (0 < (mg l' n).length ∧ (ix l' n).fr ≤ (ix (mg l' n) ((mg l' n).length - 1)).to) := fun h => by have h3 := of_decide_eq_false h10; rw [hxk, hpl] at h3; exact h3 h.2
          have hml := (rwM_new hcc).2
          have hst : (((tD eIv (rwM l' n))).set ((mg l' n).length) [.dv (.fl (.int .i64 ((((Ivl.mk (((ix (rwM l' n) n)).fr) (((ix (rwM l' n) n)).to)))).fr))), .dv (.fl (.int .i64 ((((Ivl.mk (((ix (rwM l' n) n)).fr) (((ix (rwM l' n) n)).to)))).to)))]) = tD eIv (rwM l' (n + 1)) := (tD_set (x := (ix (rwM l' n) n)) rfl).trans (by rw [hxk]; exact congrArg (tD eIv) (rwM_set2 (by omega) hcc))
          show ∃ i, _ ∧ _ ∧ Imp _ _ _ _ _
          refine ⟨n + 1, (by omega), by omega, imp_forget rfl ⟨rfl, rfl, rfl, rfl, rfl, rfl, rfl, rfl, (ci (by omega)), (ci (by omega)), trivial⟩ ⟨(congrArg (fun z => Ob.tr 32 2 z) hst), trivial⟩⟩
    · skip
      have h13 := f_dec h5
      refine a_exit ?_
      show A _ _ _ _ _ _ _
      refine a_rseq ?_
      have hkl : n = l'.length := by omega
      subst hkl
      have htk : ((rwM l' l'.length).take (mg l' l'.length).length).length = (mg l' l'.length).length := by rw [rwM_end]
      refine rg_put (d := 73) (v := .ow 101) rfl (og rfl (op_move rfl rfl rfl)) ?_
      refine rg_put (d := 74) (v := .d (.fl (.int .i64 (((mg l' l'.length).length : Int))))) rfl (og rfl (op_move rfl rfl rfl)) ?_
      refine rg_imp (imp_leakT 73 101 rfl rfl) ?_
      refine rg_put (d := 75) (v := .d (.sl 2 (List.map eIv ((((rwM l' l'.length).drop 0).take ((mg l' l'.length).length - 0)))))) rfl (og rfl (s_slice rfl Try.underlying34 ti32 rfl (.no _) (.so (n := (mg l' l'.length).length) _ rfl (by first | omega | (simp only [List.length_singleton]; omega))) (by first | omega | (simp only [List.length_singleton]; omega)) (by first | omega | (simp only [List.length_singleton]; omega)) rfl)) ?_
      refine rg_put (d := 2) (v := .d (.sl 2 (List.map eIv ((((rwM l' l'.length).drop 0).take ((mg l' l'.length).length - 0)))))) rfl (og rfl (op_assign rfl rfl rfl)) ?_
      refine rg_done rfl ?_
      refine a_ret ?_
      show ∃ ds, ResL _ _ _ ds ∧ RV.of ds = _
      refine ⟨[.sl 2 (List.map eIv ((((rwM l' l'.length).drop 0).take ((mg l' l'.length).length - 0))))], (.cons (.tmp rfl (.d _)) .nil), ?_⟩
      rw [Nat.sub_zero, List.drop_zero, rwM_end, nrm_eq hpm hsm]; rfl
end Go.Proofs.Ytniefocnfcaebaa.Wk
