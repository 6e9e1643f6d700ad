/- Costs and confidence. Condition: times of 40 bits. -/
import Derived.Test.YtdhhpnkdokdjkaaTy
set_option linter.unusedSimpArgs false
set_option linter.unusedVariables false
namespace Go.Proofs.Ytdhhpnkdokdjkaa.Wk
open Go Go.RowKit Go.Proofs.Ytdhhpnkdokdjkaa.Av
theorem ne_self_b (a : Int) : (a != a) = false := by simp
theorem sEq_eq {a b : ByteArray} (h : sEq a b = true) : a = b := of_decide_eq_true h
theorem sEq_of {a b : ByteArray} (h : a = b) : sEq a b = true := decide_eq_true h
theorem nb {b : Bool} (h : ¬ b = true) : b = false := by cases b <;> simp at h ⊢
theorem nnb {b : Bool} (h : ¬ (!b) = true) : b = true := by cases b <;> simp at h ⊢

def isT (t : Int) : Bool := decide (0 ≤ t) && decide (t < 68719476736)
theorem isT_t {t : Int} (h : isT t = true) : 0 ≤ t ∧ t < 68719476736 := by simpa [isT] using h
theorem isT_f {t : Int} (h : isT t = false) : ¬ (0 ≤ t ∧ t < 68719476736) := fun h2 => by have : isT t = true := by simpa [isT] using h2
                                                                                          rw [this] at h; cases h
def dst (a b : Int) : Int := max a b - min a b
def lck (x : Int) : Int := (1000 - min (max x 0) 1000) / 10
theorem lck_in (x : Int) : 0 ≤ lck x ∧ lck x ≤ 100 := by unfold lck; omega
theorem dst_eq (a b : Int) : dst a b = max a b - min a b := rfl
def cst (k1 k2 p d t : Bool) (n m : Int) : Int := bif k1 || (k2 || (p || d)) then -1 else bif t then n else m
def pr (a b : Sn) : Int := cst (a.kind != 1) (b.kind != 2) (!(sEq a.point b.point)) (decide (20 < dst a.time b.time)) (a.lane != b.lane) (10 * dst a.time b.time + lck a.d.score + lck b.d.score + 50) (10 * dst a.time b.time + lck a.d.score + lck b.d.score)
def ax (p : Pg) (lane : Int) (s : Sn) : Int := cst (s.kind != 3) false (!(sEq p.point s.point)) (decide (10 < dst p.time s.time)) (s.lane != lane) (5 * dst p.time s.time + 40) (5 * dst p.time s.time)
def conf (best margin : Int) : Int := min (max (600 + 2 * (if margin = -1 then 1000 else margin) - best) 0) 1000

set_option maxHeartbeats 4000000 in
set_option maxRecDepth 100000 in
theorem isT6 (a : Int) : Ctr Try.prog 6 [.fl (.int .i64 a)] (.d (.fl (.bool (isT a)))) := by
  refine ctr (n := 9) (rs := #[.tmp 2]) (L := [(0, .d (.fl (.int .i64 a)))]) Try.func6 rfl rfl rfl rfl rfl (fun w0 U0 => ?_)
  refine a_rseq ?_
  refine rg_put (d := 2) (v := .d (.fl (.bool false))) rfl (og rfl (op_assign rfl rfl rfl)) ?_
  refine rg_done rfl ?_
  refine a_rseq ?_
  refine rg_put (d := 3) (v := .d (.fl (.int .i64 a))) rfl (og rfl (op_move rfl rfl rfl)) ?_
  refine rg_put (d := 4) (v := .d (.fl (.bool ((decide (0 ≤ a)))))) rfl (og rfl (op_bin rfl rfl rfl (b_geq _ _ _ _) rfl)) ?_
  refine rg_put (d := 5) (v := .d (.fl (.bool ((decide (0 ≤ a)))))) rfl (og rfl (op_move rfl rfl rfl)) ?_
  rcases fot ((decide (0 ≤ a))) with h1 | h1
  · skip
    have h2 := f_dec h1
    refine rg_put (d := 6) (v := .d (.fl undef)) rfl (on rfl rfl rfl h1) ?_
    refine rg_put (d := 7) (v := .d (.fl undef)) rfl (on rfl rfl rfl h1) ?_
    refine rg_put (d := 8) (v := .d (.fl (.bool false))) rfl (og rfl (op_pick rfl rfl (by rw [h1]; rfl) rfl)) ?_
    refine rg_put (d := 2) (v := .d (.fl (.bool false))) rfl (og rfl (op_assign rfl rfl rfl)) ?_
    refine rg_done rfl ?_
    refine a_ret ?_
    show ∃ ds, ResL _ _ _ ds ∧ RV.of ds = _
    refine ⟨[.fl (.bool false)], (.cons (.tmp rfl (.d _)) .nil), ?_⟩
    have hu : isT a = false := by
      unfold isT; simp only [h1, Bool.true_and, Bool.false_and] <;> rfl
    rw [hu]; rfl
  · skip
    have h3 := t_dec h1
    refine rg_put (d := 6) (v := .d (.fl (.int .i64 a))) rfl (oy rfl rfl rfl h1 (op_move rfl rfl rfl)) ?_
    refine rg_put (d := 7) (v := .d (.fl (.bool ((decide (a < 68719476736)))))) rfl (oy rfl rfl rfl h1 (op_bin rfl rfl rfl (b_lss _ _ _ _) rfl)) ?_
    refine rg_put (d := 8) (v := .d (.fl (.bool ((decide (a < 68719476736)))))) rfl (og rfl (op_pick rfl rfl (by rw [h1]; rfl) rfl)) ?_
    refine rg_put (d := 2) (v := .d (.fl (.bool ((decide (a < 68719476736)))))) rfl (og rfl (op_assign rfl rfl rfl)) ?_
    refine rg_done rfl ?_
    refine a_ret ?_
    show ∃ ds, ResL _ _ _ ds ∧ RV.of ds = _
    refine ⟨[.fl (.bool ((decide (a < 68719476736))))], (.cons (.tmp rfl (.d _)) .nil), ?_⟩
    have hu : isT a = (decide (a < 68719476736)) := by
      unfold isT; simp only [h1, Bool.true_and, Bool.false_and] <;> rfl
    rw [hu]; rfl
set_option maxHeartbeats 4000000 in
set_option maxRecDepth 100000 in
theorem dst17 (a b : Int) (ha : -1099511627776 ≤ a ∧ a ≤ 1099511627776) (hb : -1099511627776 ≤ b ∧ b ≤ 1099511627776) : Ctr Try.prog 17 [.fl (.int .i64 a), .fl (.int .i64 b)] (.d (.fl (.int .i64 (dst a b)))) := by
  refine ctr (n := 12) (rs := #[.tmp 4]) (L := [(0, .d (.fl (.int .i64 a))), (1, .d (.fl (.int .i64 b)))]) Try.func17 rfl rfl rfl rfl rfl (fun w0 U0 => ?_)
  refine a_rseq ?_
  refine rg_put (d := 4) (v := .d (.fl (.int .i64 0))) rfl (og rfl (op_assign rfl rfl rfl)) ?_
  refine rg_done rfl ?_
  refine a_rseq ?_
  refine rg_put (d := 5) (v := .d (.fl (.int .i64 a))) rfl (og rfl (op_move rfl rfl rfl)) ?_
  refine rg_put (d := 6) (v := .d (.fl (.int .i64 b))) rfl (og rfl (op_move rfl rfl rfl)) ?_
  refine rg_put (d := 7) (v := .d (.fl (.int .i64 (max a b)))) rfl (og rfl (op_max rfl rfl rfl rfl)) ?_
  refine rg_put (d := 8) (v := .d (.fl (.int .i64 a))) rfl (og rfl (op_move rfl rfl rfl)) ?_
  refine rg_put (d := 9) (v := .d (.fl (.int .i64 b))) rfl (og rfl (op_move rfl rfl rfl)) ?_
  refine rg_put (d := 10) (v := .d (.fl (.int .i64 (min a b)))) rfl (og rfl (op_min rfl rfl rfl rfl)) ?_
  refine rg_put (d := 11) (v := .d (.fl (.int .i64 (((max a b) - (min a b)))))) rfl (og rfl (op_bin rfl rfl rfl (fun x y w => b_sub64 _ _ _ x y w (by omega)) rfl)) ?_
  refine rg_put (d := 4) (v := .d (.fl (.int .i64 (((max a b) - (min a b)))))) rfl (og rfl (op_assign rfl rfl rfl)) ?_
  refine rg_done rfl ?_
  refine a_ret ?_
  show ∃ ds, ResL _ _ _ ds ∧ RV.of ds = _
  refine ⟨[.fl (.int .i64 (((max a b) - (min a b))))], (.cons (.tmp rfl (.d _)) .nil), ?_⟩
  have hu : dst a b = ((max a b) - (min a b)) := by rw [dst_eq] <;> omega
  rw [hu]; rfl
set_option maxHeartbeats 4000000 in
set_option maxRecDepth 100000 in
theorem dst19 (a b : Int) (ha : -1099511627776 ≤ a ∧ a ≤ 1099511627776) (hb : -1099511627776 ≤ b ∧ b ≤ 1099511627776) : Ctr Try.prog 19 [.fl (.int .i64 a), .fl (.int .i64 b)] (.d (.fl (.int .i64 (dst a b)))) := by
  refine ctr (n := 14) (rs := #[.tmp 4]) (L := [(0, .d (.fl (.int .i64 a))), (1, .d (.fl (.int .i64 b)))]) Try.func19 rfl rfl rfl rfl rfl (fun w0 U0 => ?_)
  refine a_rseq ?_
  refine rg_put (d := 4) (v := .d (.fl (.int .i64 0))) rfl (og rfl (op_assign rfl rfl rfl)) ?_
  refine rg_done rfl ?_
  refine a_seq ?_
  refine a_rseq ?_
  refine rg_put (d := 5) (v := .d (.fl (.int .i64 a))) rfl (og rfl (op_move rfl rfl rfl)) ?_
  refine rg_put (d := 6) (v := .d (.fl (.int .i64 b))) rfl (og rfl (op_move rfl rfl rfl)) ?_
  refine rg_put (d := 7) (v := .d (.fl (.bool ((decide (a < b)))))) rfl (og rfl (op_bin rfl rfl rfl (b_lss _ _ _ _) rfl)) ?_
  refine rg_done rfl ?_
  refine a_cond rfl (fun h1 => ?_) (fun h1 => ?_)
  · skip
    have h2 := t_dec h1
    refine a_rseq ?_
    refine rg_put (d := 8) (v := .d (.fl (.int .i64 b))) rfl (og rfl (op_move rfl rfl rfl)) ?_
    refine rg_put (d := 9) (v := .d (.fl (.int .i64 a))) rfl (og rfl (op_move rfl rfl rfl)) ?_
    refine rg_put (d := 10) (v := .d (.fl (.int .i64 (b - a)))) rfl (og rfl (op_bin rfl rfl rfl (fun x y w => b_sub64 _ _ _ x y w (by omega)) rfl)) ?_
    refine rg_put (d := 4) (v := .d (.fl (.int .i64 (b - a)))) rfl (og rfl (op_assign rfl rfl rfl)) ?_
    refine rg_done rfl ?_
    refine a_ret ?_
    show ∃ ds, ResL _ _ _ ds ∧ RV.of ds = _
    refine ⟨[.fl (.int .i64 (b - a))], (.cons (.tmp rfl (.d _)) .nil), ?_⟩
    have hu : dst a b = (b - a) := by rw [dst_eq] <;> omega
    rw [hu]; rfl
  · skip
    have h3 := f_dec h1
    refine a_skip ?_
    show A _ _ _ _ _ _ _
    refine a_rseq ?_
    refine rg_put (d := 11) (v := .d (.fl (.int .i64 a))) rfl (og rfl (op_move rfl rfl rfl)) ?_
    refine rg_put (d := 12) (v := .d (.fl (.int .i64 b))) rfl (og rfl (op_move rfl rfl rfl)) ?_
    refine rg_put (d := 13) (v := .d (.fl (.int .i64 (a - b)))) rfl (og rfl (op_bin rfl rfl rfl (fun x y w => b_sub64 _ _ _ x y w (by omega)) rfl)) ?_
    refine rg_put (d := 4) (v := .d (.fl (.int .i64 (a - b)))) rfl (og rfl (op_assign rfl rfl rfl)) ?_
    refine rg_done rfl ?_
    refine a_ret ?_
    show ∃ ds, ResL _ _ _ ds ∧ RV.of ds = _
    refine ⟨[.fl (.int .i64 (a - b))], (.cons (.tmp rfl (.d _)) .nil), ?_⟩
    have hu : dst a b = (a - b) := by rw [dst_eq] <;> omega
    rw [hu]; rfl
set_option maxHeartbeats 4000000 in
set_option maxRecDepth 100000 in
theorem lck18 (s : Sn) : Ctr Try.prog 18 [.ag (eSn s)] (.d (.fl (.int .i64 (lck s.d.score)))) := by
  refine ctr (n := 10) (rs := #[.tmp 2]) (L := [(0, .d (.ag (eSn s)))]) Try.func18 rfl rfl rfl rfl rfl (fun w0 U0 => ?_)
  refine a_rseq ?_
  refine rg_nam (d := 1) (v := .pt 101 0) (m := 101) (nw := [(101, .bx 25 (eSn s))]) rfl (og rfl (of_eff (op_box 101 rfl rfl rfl rfl) rfl)) rfl ?_
  refine rg_put (d := 2) (v := .d (.fl (.int .i64 0))) rfl (og rfl (op_assign rfl rfl rfl)) ?_
  refine rg_done rfl ?_
  refine a_rseq ?_
  refine rg_put (d := 3) (v := .pt 101 0) rfl (og rfl (of_eff (s_field_pt rfl Try.underlying25 rfl ti23 rfl rfl rfl) rfl)) ?_
  refine rg_put (d := 4) (v := .pt 101 6) rfl (og rfl (of_eff (s_field_pt rfl Try.underlying23 rfl ti3 rfl rfl rfl) rfl)) ?_
  refine rg_put (d := 5) (v := .d (.fl (.int .i64 s.d.score))) rfl (og rfl (op_load_pt rfl Try.underlying3 rfl rfl rfl rfl rfl)) ?_
  refine rg_put (d := 6) (v := .d (.fl (.int .i64 (max s.d.score 0)))) rfl (og rfl (op_max rfl rfl rfl rfl)) ?_
  refine rg_put (d := 7) (v := .d (.fl (.int .i64 ((min (max s.d.score 0) 1000))))) rfl (og rfl (op_min rfl rfl rfl rfl)) ?_
  refine rg_put (d := 8) (v := .d (.fl (.int .i64 ((1000 - (min (max s.d.score 0) 1000)))))) rfl (og rfl (op_bin rfl rfl rfl (fun x y w => b_sub64 _ _ _ x y w (by omega)) rfl)) ?_
  refine rg_put (d := 9) (v := .d (.fl (.int .i64 ((IntKind.i64.wrap (((1000 - (min (max s.d.score 0) 1000))) / 10)))))) rfl (og rfl (op_bin rfl rfl rfl (fun x y w => b_quoK _ _ _ _ x y w (by omega) (by omega)) rfl)) ?_
  refine rg_put (d := 2) (v := .d (.fl (.int .i64 ((IntKind.i64.wrap (((1000 - (min (max s.d.score 0) 1000))) / 10)))))) rfl (og rfl (op_assign rfl rfl rfl)) ?_
  refine rg_done rfl ?_
  refine a_ret ?_
  show ∃ ds, ResL _ _ _ ds ∧ RV.of ds = _
  refine ⟨[.fl (.int .i64 ((IntKind.i64.wrap (((1000 - (min (max s.d.score 0) 1000))) / 10))))], (.cons (.tmp rfl (.d _)) .nil), ?_⟩
  have hu : lck s.d.score = (IntKind.i64.wrap (((1000 - (min (max s.d.score 0) 1000))) / 10)) := by unfold lck; rw [IntKind.wrap_i64] <;> omega
  rw [hu]; rfl
set_option maxHeartbeats 4000000 in
set_option maxRecDepth 100000 in
theorem lck20 (s : Sn) : Ctr Try.prog 20 [.ag (eSn s)] (.d (.fl (.int .i64 (lck s.d.score)))) := by
  refine ctr (n := 14) (rs := #[.tmp 2]) (L := [(0, .d (.ag (eSn s)))]) Try.func20 rfl rfl rfl rfl rfl (fun w0 U0 => ?_)
  refine a_rseq ?_
  refine rg_nam (d := 1) (v := .pt 101 0) (m := 101) (nw := [(101, .bx 25 (eSn s))]) rfl (og rfl (of_eff (op_box 101 rfl rfl rfl rfl) rfl)) rfl ?_
  refine rg_put (d := 2) (v := .d (.fl (.int .i64 0))) rfl (og rfl (op_assign rfl rfl rfl)) ?_
  refine rg_done rfl ?_
  refine a_rseq ?_
  refine rg_put (d := 4) (v := .pt 101 0) rfl (og rfl (of_eff (s_field_pt rfl Try.underlying25 rfl ti23 rfl rfl rfl) rfl)) ?_
  refine rg_put (d := 5) (v := .pt 101 6) rfl (og rfl (of_eff (s_field_pt rfl Try.underlying23 rfl ti3 rfl rfl rfl) rfl)) ?_
  refine rg_put (d := 6) (v := .d (.fl (.int .i64 s.d.score))) rfl (og rfl (op_load_pt rfl Try.underlying3 rfl rfl rfl rfl rfl)) ?_
  refine rg_put (d := 3) (v := .d (.fl (.int .i64 s.d.score))) rfl (og rfl (op_assign rfl rfl rfl)) ?_
  refine rg_done rfl ?_
  refine a_seq ?_
  refine a_rseq ?_
  refine rg_put (d := 7) (v := .d (.fl (.int .i64 s.d.score))) rfl (og rfl (op_move rfl rfl rfl)) ?_
  refine rg_put (d := 8) (v := .d (.fl (.bool ((decide (s.d.score < 0)))))) rfl (og rfl (op_bin rfl rfl rfl (b_lss _ _ _ _) rfl)) ?_
  refine rg_done rfl ?_
  refine a_cond rfl (fun h1 => ?_) (fun h1 => ?_)
  · skip
    have h2 := t_dec h1
    refine a_region ?_
    refine rg_put (d := 3) (v := .d (.fl (.int .i64 0))) rfl (og rfl (op_assign rfl rfl rfl)) ?_
    refine rg_done rfl ?_
    show A _ _ _ _ _ _ _
    refine a_seq ?_
    refine a_rseq ?_
    refine rg_put (d := 9) (v := .d (.fl (.int .i64 0))) rfl (og rfl (op_move rfl rfl rfl)) ?_
    refine rg_put (d := 10) (v := .d (.fl (.bool ((decide (1000 < 0)))))) rfl (og rfl (op_bin rfl rfl rfl (b_gtr _ _ _ _) rfl)) ?_
    refine rg_done rfl ?_
    refine a_cond rfl (fun h3 => ?_) (fun h3 => ?_)
    · skip
      have h4 := t_dec h3
      refine a_region ?_
      refine rg_put (d := 3) (v := .d (.fl (.int .i64 1000))) rfl (og rfl (op_assign rfl rfl rfl)) ?_
      refine rg_done rfl ?_
      show A _ _ _ _ _ _ _
      refine a_rseq ?_
      refine rg_put (d := 11) (v := .d (.fl (.int .i64 1000))) rfl (og rfl (op_move rfl rfl rfl)) ?_
      refine rg_put (d := 12) (v := .d (.fl (.int .i64 (1000 - 1000)))) rfl (og rfl (op_bin rfl rfl rfl (fun x y w => b_sub64 _ _ _ x y w (by omega)) rfl)) ?_
      refine rg_put (d := 13) (v := .d (.fl (.int .i64 ((IntKind.i64.wrap ((1000 - 1000) / 10)))))) rfl (og rfl (op_bin rfl rfl rfl (fun x y w => b_quoK _ _ _ _ x y w (by omega) (by omega)) rfl)) ?_
      refine rg_put (d := 2) (v := .d (.fl (.int .i64 ((IntKind.i64.wrap ((1000 - 1000) / 10)))))) rfl (og rfl (op_assign rfl rfl rfl)) ?_
      refine rg_done rfl ?_
      refine a_ret ?_
      show ∃ ds, ResL _ _ _ ds ∧ RV.of ds = _
      refine ⟨[.fl (.int .i64 ((IntKind.i64.wrap ((1000 - 1000) / 10))))], (.cons (.tmp rfl (.d _)) .nil), ?_⟩
      have hu : lck s.d.score = (IntKind.i64.wrap ((1000 - 1000) / 10)) := by unfold lck; rw [IntKind.wrap_i64] <;> omega
      rw [hu]; rfl
    · skip
      have h5 := f_dec h3
      refine a_skip ?_
      show A _ _ _ _ _ _ _
      refine a_rseq ?_
      refine rg_put (d := 11) (v := .d (.fl (.int .i64 0))) rfl (og rfl (op_move rfl rfl rfl)) ?_
      refine rg_put (d := 12) (v := .d (.fl (.int .i64 (1000 - 0)))) rfl (og rfl (op_bin rfl rfl rfl (fun x y w => b_sub64 _ _ _ x y w (by omega)) rfl)) ?_
      refine rg_put (d := 13) (v := .d (.fl (.int .i64 ((IntKind.i64.wrap ((1000 - 0) / 10)))))) rfl (og rfl (op_bin rfl rfl rfl (fun x y w => b_quoK _ _ _ _ x y w (by omega) (by omega)) rfl)) ?_
      refine rg_put (d := 2) (v := .d (.fl (.int .i64 ((IntKind.i64.wrap ((1000 - 0) / 10)))))) rfl (og rfl (op_assign rfl rfl rfl)) ?_
      refine rg_done rfl ?_
      refine a_ret ?_
      show ∃ ds, ResL _ _ _ ds ∧ RV.of ds = _
      refine ⟨[.fl (.int .i64 ((IntKind.i64.wrap ((1000 - 0) / 10))))], (.cons (.tmp rfl (.d _)) .nil), ?_⟩
      have hu : lck s.d.score = (IntKind.i64.wrap ((1000 - 0) / 10)) := by unfold lck; rw [IntKind.wrap_i64] <;> omega
      rw [hu]; rfl
  · skip
    have h6 := f_dec h1
    refine a_skip ?_
    show A _ _ _ _ _ _ _
    refine a_seq ?_
    refine a_rseq ?_
    refine rg_put (d := 9) (v := .d (.fl (.int .i64 s.d.score))) rfl (og rfl (op_move rfl rfl rfl)) ?_
    refine rg_put (d := 10) (v := .d (.fl (.bool ((decide (1000 < s.d.score)))))) rfl (og rfl (op_bin rfl rfl rfl (b_gtr _ _ _ _) rfl)) ?_
    refine rg_done rfl ?_
    refine a_cond rfl (fun h7 => ?_) (fun h7 => ?_)
    · skip
      have h8 := t_dec h7
      refine a_region ?_
      refine rg_put (d := 3) (v := .d (.fl (.int .i64 1000))) rfl (og rfl (op_assign rfl rfl rfl)) ?_
      refine rg_done rfl ?_
      show A _ _ _ _ _ _ _
      refine a_rseq ?_
      refine rg_put (d := 11) (v := .d (.fl (.int .i64 1000))) rfl (og rfl (op_move rfl rfl rfl)) ?_
      refine rg_put (d := 12) (v := .d (.fl (.int .i64 (1000 - 1000)))) rfl (og rfl (op_bin rfl rfl rfl (fun x y w => b_sub64 _ _ _ x y w (by omega)) rfl)) ?_
      refine rg_put (d := 13) (v := .d (.fl (.int .i64 ((IntKind.i64.wrap ((1000 - 1000) / 10)))))) rfl (og rfl (op_bin rfl rfl rfl (fun x y w => b_quoK _ _ _ _ x y w (by omega) (by omega)) rfl)) ?_
      refine rg_put (d := 2) (v := .d (.fl (.int .i64 ((IntKind.i64.wrap ((1000 - 1000) / 10)))))) rfl (og rfl (op_assign rfl rfl rfl)) ?_
      refine rg_done rfl ?_
      refine a_ret ?_
      show ∃ ds, ResL _ _ _ ds ∧ RV.of ds = _
      refine ⟨[.fl (.int .i64 ((IntKind.i64.wrap ((1000 - 1000) / 10))))], (.cons (.tmp rfl (.d _)) .nil), ?_⟩
      have hu : lck s.d.score = (IntKind.i64.wrap ((1000 - 1000) / 10)) := by unfold lck; rw [IntKind.wrap_i64] <;> omega
      rw [hu]; rfl
    · skip
      have h9 := f_dec h7
      refine a_skip ?_
      show A _ _ _ _ _ _ _
      refine a_rseq ?_
      refine rg_put (d := 11) (v := .d (.fl (.int .i64 s.d.score))) rfl (og rfl (op_move rfl rfl rfl)) ?_
      refine rg_put (d := 12) (v := .d (.fl (.int .i64 (1000 - s.d.score)))) rfl (og rfl (op_bin rfl rfl rfl (fun x y w => b_sub64 _ _ _ x y w (by omega)) rfl)) ?_
      refine rg_put (d := 13) (v := .d (.fl (.int .i64 ((IntKind.i64.wrap ((1000 - s.d.score) / 10)))))) rfl (og rfl (op_bin rfl rfl rfl (fun x y w => b_quoK _ _ _ _ x y w (by omega) (by omega)) rfl)) ?_
      refine rg_put (d := 2) (v := .d (.fl (.int .i64 ((IntKind.i64.wrap ((1000 - s.d.score) / 10)))))) rfl (og rfl (op_assign rfl rfl rfl)) ?_
      refine rg_done rfl ?_
      refine a_ret ?_
      show ∃ ds, ResL _ _ _ ds ∧ RV.of ds = _
      refine ⟨[.fl (.int .i64 ((IntKind.i64.wrap ((1000 - s.d.score) / 10))))], (.cons (.tmp rfl (.d _)) .nil), ?_⟩
      have hu : lck s.d.score = (IntKind.i64.wrap ((1000 - s.d.score) / 10)) := by unfold lck; rw [IntKind.wrap_i64] <;> omega
      rw [hu]; rfl
set_option maxHeartbeats 4000000 in
set_option maxRecDepth 100000 in
theorem pr8 (a b : Sn) (ha : -1099511627776 ≤ a.time ∧ a.time ≤ 1099511627776) (hb : -1099511627776 ≤ b.time ∧ b.time ≤ 1099511627776) : Ctr Try.prog 8 [.ag (eSn a), .ag (eSn b)] (.d (.fl (.int .i64 (pr a b)))) := by
  have hla := lck_in a.d.score
  have hlb := lck_in b.d.score
  have hd : dst a.time b.time = max a.time b.time - min a.time b.time := rfl
  refine ctr (n := 47) (rs := #[.tmp 4]) (L := [(0, .d (.ag (eSn a))), (1, .d (.ag (eSn b)))]) Try.func8 rfl rfl rfl rfl rfl (fun w0 U0 => ?_)
  refine a_rseq ?_
  refine rg_nam (d := 2) (v := .pt 101 0) (m := 101) (nw := [(101, .bx 25 (eSn a))]) rfl (og rfl (of_eff (op_box 101 rfl rfl rfl rfl) rfl)) rfl ?_
  refine rg_nam (d := 3) (v := .pt 102 0) (m := 102) (nw := [(102, .bx 25 (eSn b))]) rfl (og rfl (of_eff (op_box 102 rfl rfl rfl rfl) rfl)) rfl ?_
  refine rg_put (d := 4) (v := .d (.fl (.int .i64 0))) rfl (og rfl (op_assign rfl rfl rfl)) ?_
  refine rg_done rfl ?_
  refine a_rseq ?_
  refine rg_put (d := 7) (v := .pt 101 7) rfl (og rfl (of_eff (s_field_pt rfl Try.underlying25 rfl ti3 rfl rfl rfl) rfl)) ?_
  refine rg_put (d := 8) (v := .d (.fl (.int .i64 a.time))) rfl (og rfl (op_load_pt rfl Try.underlying3 rfl rfl rfl rfl rfl)) ?_
  refine rg_put (d := 9) (v := .pt 102 7) rfl (og rfl (of_eff (s_field_pt rfl Try.underlying25 rfl ti3 rfl rfl rfl) rfl)) ?_
  refine rg_put (d := 10) (v := .d (.fl (.int .i64 b.time))) rfl (og rfl (op_load_pt rfl Try.underlying3 rfl rfl rfl rfl rfl)) ?_
  refine rg_put (d := 11) (v := .d (.fl (.int .i64 (dst a.time b.time)))) rfl (og rfl (op_call rfl Try.func17 nm17 rfl (.cons rfl (.d _) (.cons rfl (.d _) .nil)) (dst17 a.time b.time (by omega) (by omega)) rfl)) ?_
  refine rg_put (d := 5) (v := .d (.fl (.int .i64 (dst a.time b.time)))) rfl (og rfl (op_assign rfl rfl rfl)) ?_
  refine rg_done rfl ?_
  refine a_seq ?_
  refine a_rseq ?_
  refine rg_put (d := 12) (v := .pt 101 10) rfl (og rfl (of_eff (s_field_pt rfl Try.underlying25 rfl ti3 rfl rfl rfl) rfl)) ?_
  refine rg_put (d := 13) (v := .d (.fl (.int .i64 a.kind))) rfl (og rfl (op_load_pt rfl Try.underlying3 rfl rfl rfl rfl rfl)) ?_
  refine rg_put (d := 14) (v := .d (.fl (.bool (a.kind != 1)))) rfl (og rfl (op_bin rfl rfl rfl (b_neq _ _ _ _) rfl)) ?_
  refine rg_put (d := 15) (v := .d (.fl (.bool (a.kind != 1)))) rfl (og rfl (op_move rfl rfl rfl)) ?_
  rcases fot (a.kind != 1) with h1 | h1
  · skip
    have h2 := f_bne h1
    refine rg_put (d := 16) (v := .pt 102 10) rfl (oy rfl rfl rfl h1 (of_eff (s_field_pt rfl Try.underlying25 rfl ti3 rfl rfl rfl) rfl)) ?_
    refine rg_put (d := 17) (v := .d (.fl (.int .i64 b.kind))) rfl (oy rfl rfl rfl h1 (op_load_pt rfl Try.underlying3 rfl rfl rfl rfl rfl)) ?_
    refine rg_put (d := 18) (v := .d (.fl (.bool (b.kind != 2)))) rfl (oy rfl rfl rfl h1 (op_bin rfl rfl rfl (b_neq _ _ _ _) rfl)) ?_
    refine rg_put (d := 19) (v := .d (.fl (.bool (b.kind != 2)))) rfl (og rfl (op_pick rfl rfl (by rw [h1]; rfl) rfl)) ?_
    refine rg_put (d := 20) (v := .d (.fl (.bool (b.kind != 2)))) rfl (og rfl (op_move rfl rfl rfl)) ?_
    rcases fot (b.kind != 2) with h3 | h3
    · skip
      have h4 := f_bne h3
      refine rg_put (d := 21) (v := .pt 101 8) rfl (oy rfl rfl rfl h3 (of_eff (s_field_pt rfl Try.underlying25 rfl ti9 rfl rfl rfl) rfl)) ?_
      refine rg_put (d := 22) (v := .d (.fl (.string a.point))) rfl (oy rfl rfl rfl h3 (op_load_pt rfl Try.underlying9 rfl rfl rfl rfl rfl)) ?_
      refine rg_put (d := 23) (v := .pt 102 8) rfl (oy rfl rfl rfl h3 (of_eff (s_field_pt rfl Try.underlying25 rfl ti9 rfl rfl rfl) rfl)) ?_
      refine rg_put (d := 24) (v := .d (.fl (.string b.point))) rfl (oy rfl rfl rfl h3 (op_load_pt rfl Try.underlying9 rfl rfl rfl rfl rfl)) ?_
      refine rg_put (d := 25) (v := .d (.fl (.bool ((!(sEq a.point b.point)))))) rfl (oy rfl rfl rfl h3 (op_bin rfl rfl rfl (b_sne _ _ _) rfl)) ?_
      refine rg_put (d := 26) (v := .d (.fl (.bool ((!(sEq a.point b.point)))))) rfl (og rfl (op_pick rfl rfl (by rw [h3]; rfl) rfl)) ?_
      refine rg_put (d := 27) (v := .d (.fl (.bool ((!(sEq a.point b.point)))))) rfl (og rfl (op_move rfl rfl rfl)) ?_
      rcases fot ((!(sEq a.point b.point))) with h5 | h5
      · skip
        have h6 := f_not h5
        refine rg_put (d := 28) (v := .d (.fl (.int .i64 (dst a.time b.time)))) rfl (oy rfl rfl rfl h5 (op_move rfl rfl rfl)) ?_
        refine rg_put (d := 29) (v := .d (.fl (.bool ((decide (20 < (dst a.time b.time))))))) rfl (oy rfl rfl rfl h5 (op_bin rfl rfl rfl (b_gtr _ _ _ _) rfl)) ?_
        refine rg_put (d := 30) (v := .d (.fl (.bool ((decide (20 < (dst a.time b.time))))))) rfl (og rfl (op_pick rfl rfl (by rw [h5]; rfl) rfl)) ?_
        refine rg_done rfl ?_
        refine a_cond rfl (fun h7 => ?_) (fun h7 => ?_)
        · skip
          have h8 := t_dec h7
          refine a_rseq ?_
          refine rg_put (d := 4) (v := .d (.fl (.int .i64 (-1)))) rfl (og rfl (op_assign rfl rfl rfl)) ?_
          refine rg_done rfl ?_
          refine a_ret ?_
          show ∃ ds, ResL _ _ _ ds ∧ RV.of ds = _
          refine ⟨[.fl (.int .i64 (-1))], (.cons (.tmp rfl (.d _)) .nil), ?_⟩
          have hu : pr a b = (-1) := by unfold pr; unfold cst; simp only [h1, h3, h5, h6, h7, Bool.true_or, Bool.false_or, Bool.or_true, Bool.or_false, Bool.not_true, Bool.not_false, cond_true, cond_false] <;> rfl
          rw [hu]; rfl
        · skip
          have h9 := f_dec h7
          refine a_skip ?_
          show A _ _ _ _ _ _ _
          refine a_dseq (by kernel_rfl) ?_
          refine dr_put (d := 31) (v := .d (.fl (.int .i64 (dst a.time b.time)))) rfl (og rfl (op_move rfl rfl rfl)) ?_
          refine dr_put (d := 32) (v := .d (.fl (.int .i64 ((10 * (dst a.time b.time)))))) rfl (og rfl (op_bin rfl rfl rfl (fun x y w => b_mul64 _ _ _ x y w (by omega)) rfl)) ?_
          refine dr_put (d := 33) (v := .d (.ag (eSn a))) rfl (og rfl (of_eff (s_load_pts rfl Try.underlying25 rfl ti25 rfl rfl rfl rfl) rfl)) ?_
          refine dr_put (d := 34) (v := .d (.fl (.int .i64 (lck a.d.score)))) rfl (og rfl (op_call rfl Try.func18 nm18 rfl (.cons rfl (.d _) .nil) (lck18 a) rfl)) ?_
          refine dr_put (d := 35) (v := .d (.fl (.int .i64 (((10 * (dst a.time b.time)) + (lck a.d.score)))))) rfl (og rfl (op_bin rfl rfl rfl (fun x y w => b_add64 _ _ _ x y w (by omega)) rfl)) ?_
          refine dr_put (d := 36) (v := .d (.ag (eSn b))) rfl (og rfl (of_eff (s_load_pts rfl Try.underlying25 rfl ti25 rfl rfl rfl rfl) rfl)) ?_
          refine dr_put (d := 37) (v := .d (.fl (.int .i64 (lck b.d.score)))) rfl (og rfl (op_call rfl Try.func18 nm18 rfl (.cons rfl (.d _) .nil) (lck18 b) rfl)) ?_
          refine dr_put (d := 38) (v := .d (.fl (.int .i64 ((((10 * (dst a.time b.time)) + (lck a.d.score)) + (lck b.d.score)))))) rfl (og rfl (op_bin rfl rfl rfl (fun x y w => b_add64 _ _ _ x y w (by omega)) rfl)) ?_
          refine dr_put (d := 6) (v := .d (.fl (.int .i64 ((((10 * (dst a.time b.time)) + (lck a.d.score)) + (lck b.d.score)))))) rfl (og rfl (op_assign rfl rfl rfl)) ?_
          refine dr_done rfl (by kernel_rfl) (by kernel_rfl) ?_
          refine a_seq ?_
          refine a_rseq ?_
          refine rg_put (d := 39) (v := .pt 101 9) rfl (og rfl (of_eff (s_field_pt rfl Try.underlying25 rfl ti3 rfl rfl rfl) rfl)) ?_
          refine rg_put (d := 40) (v := .d (.fl (.int .i64 a.lane))) rfl (og rfl (op_load_pt rfl Try.underlying3 rfl rfl rfl rfl rfl)) ?_
          refine rg_put (d := 41) (v := .pt 102 9) rfl (og rfl (of_eff (s_field_pt rfl Try.underlying25 rfl ti3 rfl rfl rfl) rfl)) ?_
          refine rg_put (d := 42) (v := .d (.fl (.int .i64 b.lane))) rfl (og rfl (op_load_pt rfl Try.underlying3 rfl rfl rfl rfl rfl)) ?_
          refine rg_put (d := 43) (v := .d (.fl (.bool (a.lane != b.lane)))) rfl (og rfl (op_bin rfl rfl rfl (b_neq _ _ _ _) rfl)) ?_
          refine rg_done rfl ?_
          refine a_cond rfl (fun h10 => ?_) (fun h10 => ?_)
          · skip
            have h11 := t_bne h10
            refine a_region ?_
            refine rg_put (d := 44) (v := .d (.fl (.int .i64 ((((10 * (dst a.time b.time)) + (lck a.d.score)) + (lck b.d.score)))))) rfl (og rfl (op_move rfl rfl rfl)) ?_
            refine rg_put (d := 45) (v := .d (.fl (.int .i64 (((((10 * (dst a.time b.time)) + (lck a.d.score)) + (lck b.d.score)) + 50))))) rfl (og rfl (op_bin rfl rfl rfl (fun x y w => b_add64 _ _ _ x y w (by omega)) rfl)) ?_
            refine rg_put (d := 6) (v := .d (.fl (.int .i64 (((((10 * (dst a.time b.time)) + (lck a.d.score)) + (lck b.d.score)) + 50))))) rfl (og rfl (op_assign rfl rfl rfl)) ?_
            refine rg_done rfl ?_
            show A _ _ _ _ _ _ _
            refine a_rseq ?_
            refine rg_put (d := 46) (v := .d (.fl (.int .i64 (((((10 * (dst a.time b.time)) + (lck a.d.score)) + (lck b.d.score)) + 50))))) rfl (og rfl (op_move rfl rfl rfl)) ?_
            refine rg_put (d := 4) (v := .d (.fl (.int .i64 (((((10 * (dst a.time b.time)) + (lck a.d.score)) + (lck b.d.score)) + 50))))) rfl (og rfl (op_assign rfl rfl rfl)) ?_
            refine rg_done rfl ?_
            refine a_ret ?_
            show ∃ ds, ResL _ _ _ ds ∧ RV.of ds = _
            refine ⟨[.fl (.int .i64 (((((10 * (dst a.time b.time)) + (lck a.d.score)) + (lck b.d.score)) + 50)))], (.cons (.tmp rfl (.d _)) .nil), ?_⟩
            have hu : pr a b = ((((10 * (dst a.time b.time)) + (lck a.d.score)) + (lck b.d.score)) + 50) := by unfold pr; unfold cst; simp only [h1, h3, h5, h6, h7, h10, Bool.true_or, Bool.false_or, Bool.or_true, Bool.or_false, Bool.not_true, Bool.not_false, cond_true, cond_false] <;> rfl
            rw [hu]; rfl
          · skip
            have h12 := f_bne h10
            refine a_skip ?_
            show A _ _ _ _ _ _ _
            refine a_rseq ?_
            refine rg_put (d := 46) (v := .d (.fl (.int .i64 ((((10 * (dst a.time b.time)) + (lck a.d.score)) + (lck b.d.score)))))) rfl (og rfl (op_move rfl rfl rfl)) ?_
            refine rg_put (d := 4) (v := .d (.fl (.int .i64 ((((10 * (dst a.time b.time)) + (lck a.d.score)) + (lck b.d.score)))))) rfl (og rfl (op_assign rfl rfl rfl)) ?_
            refine rg_done rfl ?_
            refine a_ret ?_
            show ∃ ds, ResL _ _ _ ds ∧ RV.of ds = _
            refine ⟨[.fl (.int .i64 ((((10 * (dst a.time b.time)) + (lck a.d.score)) + (lck b.d.score))))], (.cons (.tmp rfl (.d _)) .nil), ?_⟩
            have hu : pr a b = (((10 * (dst a.time b.time)) + (lck a.d.score)) + (lck b.d.score)) := by unfold pr; unfold cst; simp only [h1, h3, h5, h6, h7, h10, Bool.true_or, Bool.false_or, Bool.or_true, Bool.or_false, Bool.not_true, Bool.not_false, cond_true, cond_false] <;> rfl
            rw [hu]; rfl
      · skip
        have h13 := t_not h5
        refine rg_put (d := 28) (v := .d (.fl undef)) rfl (on rfl rfl rfl h5) ?_
        refine rg_put (d := 29) (v := .d (.fl undef)) rfl (on rfl rfl rfl h5) ?_
        refine rg_put (d := 30) (v := .d (.fl (.bool true))) rfl (og rfl (op_pick rfl rfl (by rw [h5]; rfl) rfl)) ?_
        refine rg_done rfl ?_
        refine a_condK rfl rfl ?_
        refine a_rseq ?_
        refine rg_put (d := 4) (v := .d (.fl (.int .i64 (-1)))) rfl (og rfl (op_assign rfl rfl rfl)) ?_
        refine rg_done rfl ?_
        refine a_ret ?_
        show ∃ ds, ResL _ _ _ ds ∧ RV.of ds = _
        refine ⟨[.fl (.int .i64 (-1))], (.cons (.tmp rfl (.d _)) .nil), ?_⟩
        have hu : pr a b = (-1) := by unfold pr; unfold cst; simp only [h1, h3, h5, h13, Bool.true_or, Bool.false_or, Bool.or_true, Bool.or_false, Bool.not_true, Bool.not_false, cond_true, cond_false] <;> rfl
        rw [hu]; rfl
    · skip
      have h14 := t_bne h3
      refine rg_put (d := 21) (v := .d (.fl undef)) rfl (on rfl rfl rfl h3) ?_
      refine rg_put (d := 22) (v := .d (.fl undef)) rfl (on rfl rfl rfl h3) ?_
      refine rg_put (d := 23) (v := .d (.fl undef)) rfl (on rfl rfl rfl h3) ?_
      refine rg_put (d := 24) (v := .d (.fl undef)) rfl (on rfl rfl rfl h3) ?_
      refine rg_put (d := 25) (v := .d (.fl undef)) rfl (on rfl rfl rfl h3) ?_
      refine rg_put (d := 26) (v := .d (.fl (.bool true))) rfl (og rfl (op_pick rfl rfl (by rw [h3]; rfl) rfl)) ?_
      refine rg_put (d := 27) (v := .d (.fl (.bool true))) rfl (og rfl (op_move rfl rfl rfl)) ?_
      refine rg_put (d := 28) (v := .d (.fl undef)) rfl (on rfl rfl rfl rfl) ?_
      refine rg_put (d := 29) (v := .d (.fl undef)) rfl (on rfl rfl rfl rfl) ?_
      refine rg_put (d := 30) (v := .d (.fl (.bool true))) rfl (og rfl (op_pick rfl rfl rfl rfl)) ?_
      refine rg_done rfl ?_
      refine a_condK rfl rfl ?_
      refine a_rseq ?_
      refine rg_put (d := 4) (v := .d (.fl (.int .i64 (-1)))) rfl (og rfl (op_assign rfl rfl rfl)) ?_
      refine rg_done rfl ?_
      refine a_ret ?_
      show ∃ ds, ResL _ _ _ ds ∧ RV.of ds = _
      refine ⟨[.fl (.int .i64 (-1))], (.cons (.tmp rfl (.d _)) .nil), ?_⟩
      have hu : pr a b = (-1) := by unfold pr; unfold cst; simp only [h1, h3, Bool.true_or, Bool.false_or, Bool.or_true, Bool.or_false, Bool.not_true, Bool.not_false, cond_true, cond_false] <;> rfl
      rw [hu]; rfl
  · skip
    have h15 := t_bne h1
    refine rg_put (d := 16) (v := .d (.fl undef)) rfl (on rfl rfl rfl h1) ?_
    refine rg_put (d := 17) (v := .d (.fl undef)) rfl (on rfl rfl rfl h1) ?_
    refine rg_put (d := 18) (v := .d (.fl undef)) rfl (on rfl rfl rfl h1) ?_
    refine rg_put (d := 19) (v := .d (.fl (.bool true))) rfl (og rfl (op_pick rfl rfl (by rw [h1]; rfl) rfl)) ?_
    refine rg_put (d := 20) (v := .d (.fl (.bool true))) rfl (og rfl (op_move rfl rfl rfl)) ?_
    refine rg_put (d := 21) (v := .d (.fl undef)) rfl (on rfl rfl rfl rfl) ?_
    refine rg_put (d := 22) (v := .d (.fl undef)) rfl (on rfl rfl rfl rfl) ?_
    refine rg_put (d := 23) (v := .d (.fl undef)) rfl (on rfl rfl rfl rfl) ?_
    refine rg_put (d := 24) (v := .d (.fl undef)) rfl (on rfl rfl rfl rfl) ?_
    refine rg_put (d := 25) (v := .d (.fl undef)) rfl (on rfl rfl rfl rfl) ?_
    refine rg_put (d := 26) (v := .d (.fl (.bool true))) rfl (og rfl (op_pick rfl rfl rfl rfl)) ?_
    refine rg_put (d := 27) (v := .d (.fl (.bool true))) rfl (og rfl (op_move rfl rfl rfl)) ?_
    refine rg_put (d := 28) (v := .d (.fl undef)) rfl (on rfl rfl rfl rfl) ?_
    refine rg_put (d := 29) (v := .d (.fl undef)) rfl (on rfl rfl rfl rfl) ?_
    refine rg_put (d := 30) (v := .d (.fl (.bool true))) rfl (og rfl (op_pick rfl rfl rfl rfl)) ?_
    refine rg_done rfl ?_
    refine a_condK rfl rfl ?_
    refine a_rseq ?_
    refine rg_put (d := 4) (v := .d (.fl (.int .i64 (-1)))) rfl (og rfl (op_assign rfl rfl rfl)) ?_
    refine rg_done rfl ?_
    refine a_ret ?_
    show ∃ ds, ResL _ _ _ ds ∧ RV.of ds = _
    refine ⟨[.fl (.int .i64 (-1))], (.cons (.tmp rfl (.d _)) .nil), ?_⟩
    have hu : pr a b = (-1) := by unfold pr; unfold cst; simp only [h1, Bool.true_or, Bool.false_or, Bool.or_true, Bool.or_false, Bool.not_true, Bool.not_false, cond_true, cond_false] <;> rfl
    rw [hu]; rfl
set_option maxHeartbeats 4000000 in
set_option maxRecDepth 100000 in
theorem pr9 (a b : Sn) (ha : -1099511627776 ≤ a.time ∧ a.time ≤ 1099511627776) (hb : -1099511627776 ≤ b.time ∧ b.time ≤ 1099511627776) : Ctr Try.prog 9 [.ag (eSn a), .ag (eSn b)] (.d (.fl (.int .i64 (pr a b)))) := by
  have hla := lck_in a.d.score
  have hlb := lck_in b.d.score
  have hd : dst a.time b.time = max a.time b.time - min a.time b.time := rfl
  refine ctr (n := 49) (rs := #[.tmp 4]) (L := [(0, .d (.ag (eSn a))), (1, .d (.ag (eSn b)))]) Try.func9 rfl rfl rfl rfl rfl (fun w0 U0 => ?_)
  refine a_rseq ?_
  refine rg_nam (d := 2) (v := .pt 101 0) (m := 101) (nw := [(101, .bx 25 (eSn a))]) rfl (og rfl (of_eff (op_box 101 rfl rfl rfl rfl) rfl)) rfl ?_
  refine rg_nam (d := 3) (v := .pt 102 0) (m := 102) (nw := [(102, .bx 25 (eSn b))]) rfl (og rfl (of_eff (op_box 102 rfl rfl rfl rfl) rfl)) rfl ?_
  refine rg_put (d := 4) (v := .d (.fl (.int .i64 0))) rfl (og rfl (op_assign rfl rfl rfl)) ?_
  refine rg_done rfl ?_
  refine a_seq ?_
  refine a_rseq ?_
  refine rg_put (d := 6) (v := .pt 101 10) rfl (og rfl (of_eff (s_field_pt rfl Try.underlying25 rfl ti3 rfl rfl rfl) rfl)) ?_
  refine rg_put (d := 7) (v := .d (.fl (.int .i64 a.kind))) rfl (og rfl (op_load_pt rfl Try.underlying3 rfl rfl rfl rfl rfl)) ?_
  refine rg_put (d := 8) (v := .d (.fl (.bool (a.kind != 1)))) rfl (og rfl (op_bin rfl rfl rfl (b_neq _ _ _ _) rfl)) ?_
  refine rg_put (d := 9) (v := .d (.fl (.bool (a.kind != 1)))) rfl (og rfl (op_move rfl rfl rfl)) ?_
  rcases fot (a.kind != 1) with h1 | h1
  · skip
    have h2 := f_bne h1
    refine rg_put (d := 10) (v := .pt 102 10) rfl (oy rfl rfl rfl h1 (of_eff (s_field_pt rfl Try.underlying25 rfl ti3 rfl rfl rfl) rfl)) ?_
    refine rg_put (d := 11) (v := .d (.fl (.int .i64 b.kind))) rfl (oy rfl rfl rfl h1 (op_load_pt rfl Try.underlying3 rfl rfl rfl rfl rfl)) ?_
    refine rg_put (d := 12) (v := .d (.fl (.bool (b.kind != 2)))) rfl (oy rfl rfl rfl h1 (op_bin rfl rfl rfl (b_neq _ _ _ _) rfl)) ?_
    refine rg_put (d := 13) (v := .d (.fl (.bool (b.kind != 2)))) rfl (og rfl (op_pick rfl rfl (by rw [h1]; rfl) rfl)) ?_
    refine rg_put (d := 14) (v := .d (.fl (.bool (b.kind != 2)))) rfl (og rfl (op_move rfl rfl rfl)) ?_
    rcases fot (b.kind != 2) with h3 | h3
    · skip
      have h4 := f_bne h3
      refine rg_put (d := 15) (v := .pt 101 8) rfl (oy rfl rfl rfl h3 (of_eff (s_field_pt rfl Try.underlying25 rfl ti9 rfl rfl rfl) rfl)) ?_
      refine rg_put (d := 16) (v := .d (.fl (.string a.point))) rfl (oy rfl rfl rfl h3 (op_load_pt rfl Try.underlying9 rfl rfl rfl rfl rfl)) ?_
      refine rg_put (d := 17) (v := .pt 102 8) rfl (oy rfl rfl rfl h3 (of_eff (s_field_pt rfl Try.underlying25 rfl ti9 rfl rfl rfl) rfl)) ?_
      refine rg_put (d := 18) (v := .d (.fl (.string b.point))) rfl (oy rfl rfl rfl h3 (op_load_pt rfl Try.underlying9 rfl rfl rfl rfl rfl)) ?_
      refine rg_put (d := 19) (v := .d (.fl (.bool ((!(sEq a.point b.point)))))) rfl (oy rfl rfl rfl h3 (op_bin rfl rfl rfl (b_sne _ _ _) rfl)) ?_
      refine rg_put (d := 20) (v := .d (.fl (.bool ((!(sEq a.point b.point)))))) rfl (og rfl (op_pick rfl rfl (by rw [h3]; rfl) rfl)) ?_
      refine rg_put (d := 21) (v := .d (.fl (.bool ((!(sEq a.point b.point)))))) rfl (og rfl (op_move rfl rfl rfl)) ?_
      rcases fot ((!(sEq a.point b.point))) with h5 | h5
      · skip
        have h6 := f_not h5
        refine rg_put (d := 22) (v := .pt 101 7) rfl (oy rfl rfl rfl h5 (of_eff (s_field_pt rfl Try.underlying25 rfl ti3 rfl rfl rfl) rfl)) ?_
        refine rg_put (d := 23) (v := .d (.fl (.int .i64 a.time))) rfl (oy rfl rfl rfl h5 (op_load_pt rfl Try.underlying3 rfl rfl rfl rfl rfl)) ?_
        refine rg_put (d := 24) (v := .pt 102 7) rfl (oy rfl rfl rfl h5 (of_eff (s_field_pt rfl Try.underlying25 rfl ti3 rfl rfl rfl) rfl)) ?_
        refine rg_put (d := 25) (v := .d (.fl (.int .i64 b.time))) rfl (oy rfl rfl rfl h5 (op_load_pt rfl Try.underlying3 rfl rfl rfl rfl rfl)) ?_
        refine rg_put (d := 26) (v := .d (.fl (.int .i64 (dst a.time b.time)))) rfl (oy rfl rfl rfl h5 (op_call rfl Try.func19 nm19 rfl (.cons rfl (.d _) (.cons rfl (.d _) .nil)) (dst19 a.time b.time (by omega) (by omega)) rfl)) ?_
        refine rg_put (d := 27) (v := .d (.fl (.bool ((decide (20 < (dst a.time b.time))))))) rfl (oy rfl rfl rfl h5 (op_bin rfl rfl rfl (b_gtr _ _ _ _) rfl)) ?_
        refine rg_put (d := 28) (v := .d (.fl (.bool ((decide (20 < (dst a.time b.time))))))) rfl (og rfl (op_pick rfl rfl (by rw [h5]; rfl) rfl)) ?_
        refine rg_done rfl ?_
        refine a_cond rfl (fun h7 => ?_) (fun h7 => ?_)
        · skip
          have h8 := t_dec h7
          refine a_rseq ?_
          refine rg_put (d := 4) (v := .d (.fl (.int .i64 (-1)))) rfl (og rfl (op_assign rfl rfl rfl)) ?_
          refine rg_done rfl ?_
          refine a_ret ?_
          show ∃ ds, ResL _ _ _ ds ∧ RV.of ds = _
          refine ⟨[.fl (.int .i64 (-1))], (.cons (.tmp rfl (.d _)) .nil), ?_⟩
          have hu : pr a b = (-1) := by unfold pr; unfold cst; simp only [h1, h3, h5, h6, h7, Bool.true_or, Bool.false_or, Bool.or_true, Bool.or_false, Bool.not_true, Bool.not_false, cond_true, cond_false] <;> rfl
          rw [hu]; rfl
        · skip
          have h9 := f_dec h7
          refine a_skip ?_
          show A _ _ _ _ _ _ _
          refine a_dseq (by kernel_rfl) ?_
          refine dr_put (d := 29) (v := .pt 101 7) rfl (og rfl (of_eff (s_field_pt rfl Try.underlying25 rfl ti3 rfl rfl rfl) rfl)) ?_
          refine dr_put (d := 30) (v := .d (.fl (.int .i64 a.time))) rfl (og rfl (op_load_pt rfl Try.underlying3 rfl rfl rfl rfl rfl)) ?_
          refine dr_put (d := 31) (v := .pt 102 7) rfl (og rfl (of_eff (s_field_pt rfl Try.underlying25 rfl ti3 rfl rfl rfl) rfl)) ?_
          refine dr_put (d := 32) (v := .d (.fl (.int .i64 b.time))) rfl (og rfl (op_load_pt rfl Try.underlying3 rfl rfl rfl rfl rfl)) ?_
          refine dr_put (d := 33) (v := .d (.fl (.int .i64 (dst a.time b.time)))) rfl (og rfl (op_call rfl Try.func19 nm19 rfl (.cons rfl (.d _) (.cons rfl (.d _) .nil)) (dst19 a.time b.time (by omega) (by omega)) rfl)) ?_
          refine dr_put (d := 34) (v := .d (.fl (.int .i64 ((10 * (dst a.time b.time)))))) rfl (og rfl (op_bin rfl rfl rfl (fun x y w => b_mul64 _ _ _ x y w (by omega)) rfl)) ?_
          refine dr_put (d := 35) (v := .d (.ag (eSn a))) rfl (og rfl (of_eff (s_load_pts rfl Try.underlying25 rfl ti25 rfl rfl rfl rfl) rfl)) ?_
          refine dr_put (d := 36) (v := .d (.fl (.int .i64 (lck a.d.score)))) rfl (og rfl (op_call rfl Try.func20 nm20 rfl (.cons rfl (.d _) .nil) (lck20 a) rfl)) ?_
          refine dr_put (d := 37) (v := .d (.fl (.int .i64 (((10 * (dst a.time b.time)) + (lck a.d.score)))))) rfl (og rfl (op_bin rfl rfl rfl (fun x y w => b_add64 _ _ _ x y w (by omega)) rfl)) ?_
          refine dr_put (d := 38) (v := .d (.ag (eSn b))) rfl (og rfl (of_eff (s_load_pts rfl Try.underlying25 rfl ti25 rfl rfl rfl rfl) rfl)) ?_
          refine dr_put (d := 39) (v := .d (.fl (.int .i64 (lck b.d.score)))) rfl (og rfl (op_call rfl Try.func20 nm20 rfl (.cons rfl (.d _) .nil) (lck20 b) rfl)) ?_
          refine dr_put (d := 40) (v := .d (.fl (.int .i64 ((((10 * (dst a.time b.time)) + (lck a.d.score)) + (lck b.d.score)))))) rfl (og rfl (op_bin rfl rfl rfl (fun x y w => b_add64 _ _ _ x y w (by omega)) rfl)) ?_
          refine dr_put (d := 5) (v := .d (.fl (.int .i64 ((((10 * (dst a.time b.time)) + (lck a.d.score)) + (lck b.d.score)))))) rfl (og rfl (op_assign rfl rfl rfl)) ?_
          refine dr_done rfl (by kernel_rfl) (by kernel_rfl) ?_
          refine a_seq ?_
          refine a_rseq ?_
          refine rg_put (d := 41) (v := .pt 101 9) rfl (og rfl (of_eff (s_field_pt rfl Try.underlying25 rfl ti3 rfl rfl rfl) rfl)) ?_
          refine rg_put (d := 42) (v := .d (.fl (.int .i64 a.lane))) rfl (og rfl (op_load_pt rfl Try.underlying3 rfl rfl rfl rfl rfl)) ?_
          refine rg_put (d := 43) (v := .pt 102 9) rfl (og rfl (of_eff (s_field_pt rfl Try.underlying25 rfl ti3 rfl rfl rfl) rfl)) ?_
          refine rg_put (d := 44) (v := .d (.fl (.int .i64 b.lane))) rfl (og rfl (op_load_pt rfl Try.underlying3 rfl rfl rfl rfl rfl)) ?_
          refine rg_put (d := 45) (v := .d (.fl (.bool (a.lane != b.lane)))) rfl (og rfl (op_bin rfl rfl rfl (b_neq _ _ _ _) rfl)) ?_
          refine rg_done rfl ?_
          refine a_cond rfl (fun h10 => ?_) (fun h10 => ?_)
          · skip
            have h11 := t_bne h10
            refine a_region ?_
            refine rg_put (d := 46) (v := .d (.fl (.int .i64 ((((10 * (dst a.time b.time)) + (lck a.d.score)) + (lck b.d.score)))))) rfl (og rfl (op_move rfl rfl rfl)) ?_
            refine rg_put (d := 47) (v := .d (.fl (.int .i64 (((((10 * (dst a.time b.time)) + (lck a.d.score)) + (lck b.d.score)) + 50))))) rfl (og rfl (op_bin rfl rfl rfl (fun x y w => b_add64 _ _ _ x y w (by omega)) rfl)) ?_
            refine rg_put (d := 5) (v := .d (.fl (.int .i64 (((((10 * (dst a.time b.time)) + (lck a.d.score)) + (lck b.d.score)) + 50))))) rfl (og rfl (op_assign rfl rfl rfl)) ?_
            refine rg_done rfl ?_
            show A _ _ _ _ _ _ _
            refine a_rseq ?_
            refine rg_put (d := 48) (v := .d (.fl (.int .i64 (((((10 * (dst a.time b.time)) + (lck a.d.score)) + (lck b.d.score)) + 50))))) rfl (og rfl (op_move rfl rfl rfl)) ?_
            refine rg_put (d := 4) (v := .d (.fl (.int .i64 (((((10 * (dst a.time b.time)) + (lck a.d.score)) + (lck b.d.score)) + 50))))) rfl (og rfl (op_assign rfl rfl rfl)) ?_
            refine rg_done rfl ?_
            refine a_ret ?_
            show ∃ ds, ResL _ _ _ ds ∧ RV.of ds = _
            refine ⟨[.fl (.int .i64 (((((10 * (dst a.time b.time)) + (lck a.d.score)) + (lck b.d.score)) + 50)))], (.cons (.tmp rfl (.d _)) .nil), ?_⟩
            have hu : pr a b = ((((10 * (dst a.time b.time)) + (lck a.d.score)) + (lck b.d.score)) + 50) := by unfold pr; unfold cst; simp only [h1, h3, h5, h6, h7, h10, Bool.true_or, Bool.false_or, Bool.or_true, Bool.or_false, Bool.not_true, Bool.not_false, cond_true, cond_false] <;> rfl
            rw [hu]; rfl
          · skip
            have h12 := f_bne h10
            refine a_skip ?_
            show A _ _ _ _ _ _ _
            refine a_rseq ?_
            refine rg_put (d := 48) (v := .d (.fl (.int .i64 ((((10 * (dst a.time b.time)) + (lck a.d.score)) + (lck b.d.score)))))) rfl (og rfl (op_move rfl rfl rfl)) ?_
            refine rg_put (d := 4) (v := .d (.fl (.int .i64 ((((10 * (dst a.time b.time)) + (lck a.d.score)) + (lck b.d.score)))))) rfl (og rfl (op_assign rfl rfl rfl)) ?_
            refine rg_done rfl ?_
            refine a_ret ?_
            show ∃ ds, ResL _ _ _ ds ∧ RV.of ds = _
            refine ⟨[.fl (.int .i64 ((((10 * (dst a.time b.time)) + (lck a.d.score)) + (lck b.d.score))))], (.cons (.tmp rfl (.d _)) .nil), ?_⟩
            have hu : pr a b = (((10 * (dst a.time b.time)) + (lck a.d.score)) + (lck b.d.score)) := by unfold pr; unfold cst; simp only [h1, h3, h5, h6, h7, h10, Bool.true_or, Bool.false_or, Bool.or_true, Bool.or_false, Bool.not_true, Bool.not_false, cond_true, cond_false] <;> rfl
            rw [hu]; rfl
      · skip
        have h13 := t_not h5
        refine rg_put (d := 22) (v := .d (.fl undef)) rfl (on rfl rfl rfl h5) ?_
        refine rg_put (d := 23) (v := .d (.fl undef)) rfl (on rfl rfl rfl h5) ?_
        refine rg_put (d := 24) (v := .d (.fl undef)) rfl (on rfl rfl rfl h5) ?_
        refine rg_put (d := 25) (v := .d (.fl undef)) rfl (on rfl rfl rfl h5) ?_
        refine rg_put (d := 26) (v := .d (.fl undef)) rfl (on rfl rfl rfl h5) ?_
        refine rg_put (d := 27) (v := .d (.fl undef)) rfl (on rfl rfl rfl h5) ?_
        refine rg_put (d := 28) (v := .d (.fl (.bool true))) rfl (og rfl (op_pick rfl rfl (by rw [h5]; rfl) rfl)) ?_
        refine rg_done rfl ?_
        refine a_condK rfl rfl ?_
        refine a_rseq ?_
        refine rg_put (d := 4) (v := .d (.fl (.int .i64 (-1)))) rfl (og rfl (op_assign rfl rfl rfl)) ?_
        refine rg_done rfl ?_
        refine a_ret ?_
        show ∃ ds, ResL _ _ _ ds ∧ RV.of ds = _
        refine ⟨[.fl (.int .i64 (-1))], (.cons (.tmp rfl (.d _)) .nil), ?_⟩
        have hu : pr a b = (-1) := by unfold pr; unfold cst; simp only [h1, h3, h5, h13, Bool.true_or, Bool.false_or, Bool.or_true, Bool.or_false, Bool.not_true, Bool.not_false, cond_true, cond_false] <;> rfl
        rw [hu]; rfl
    · skip
      have h14 := t_bne h3
      refine rg_put (d := 15) (v := .d (.fl undef)) rfl (on rfl rfl rfl h3) ?_
      refine rg_put (d := 16) (v := .d (.fl undef)) rfl (on rfl rfl rfl h3) ?_
      refine rg_put (d := 17) (v := .d (.fl undef)) rfl (on rfl rfl rfl h3) ?_
      refine rg_put (d := 18) (v := .d (.fl undef)) rfl (on rfl rfl rfl h3) ?_
      refine rg_put (d := 19) (v := .d (.fl undef)) rfl (on rfl rfl rfl h3) ?_
      refine rg_put (d := 20) (v := .d (.fl (.bool true))) rfl (og rfl (op_pick rfl rfl (by rw [h3]; rfl) rfl)) ?_
      refine rg_put (d := 21) (v := .d (.fl (.bool true))) rfl (og rfl (op_move rfl rfl rfl)) ?_
      refine rg_put (d := 22) (v := .d (.fl undef)) rfl (on rfl rfl rfl rfl) ?_
      refine rg_put (d := 23) (v := .d (.fl undef)) rfl (on rfl rfl rfl rfl) ?_
      refine rg_put (d := 24) (v := .d (.fl undef)) rfl (on rfl rfl rfl rfl) ?_
      refine rg_put (d := 25) (v := .d (.fl undef)) rfl (on rfl rfl rfl rfl) ?_
      refine rg_put (d := 26) (v := .d (.fl undef)) rfl (on rfl rfl rfl rfl) ?_
      refine rg_put (d := 27) (v := .d (.fl undef)) rfl (on rfl rfl rfl rfl) ?_
      refine rg_put (d := 28) (v := .d (.fl (.bool true))) rfl (og rfl (op_pick rfl rfl rfl rfl)) ?_
      refine rg_done rfl ?_
      refine a_condK rfl rfl ?_
      refine a_rseq ?_
      refine rg_put (d := 4) (v := .d (.fl (.int .i64 (-1)))) rfl (og rfl (op_assign rfl rfl rfl)) ?_
      refine rg_done rfl ?_
      refine a_ret ?_
      show ∃ ds, ResL _ _ _ ds ∧ RV.of ds = _
      refine ⟨[.fl (.int .i64 (-1))], (.cons (.tmp rfl (.d _)) .nil), ?_⟩
      have hu : pr a b = (-1) := by unfold pr; unfold cst; simp only [h1, h3, Bool.true_or, Bool.false_or, Bool.or_true, Bool.or_false, Bool.not_true, Bool.not_false, cond_true, cond_false] <;> rfl
      rw [hu]; rfl
  · skip
    have h15 := t_bne h1
    refine rg_put (d := 10) (v := .d (.fl undef)) rfl (on rfl rfl rfl h1) ?_
    refine rg_put (d := 11) (v := .d (.fl undef)) rfl (on rfl rfl rfl h1) ?_
    refine rg_put (d := 12) (v := .d (.fl undef)) rfl (on rfl rfl rfl h1) ?_
    refine rg_put (d := 13) (v := .d (.fl (.bool true))) rfl (og rfl (op_pick rfl rfl (by rw [h1]; rfl) rfl)) ?_
    refine rg_put (d := 14) (v := .d (.fl (.bool true))) rfl (og rfl (op_move rfl rfl rfl)) ?_
    refine rg_put (d := 15) (v := .d (.fl undef)) rfl (on rfl rfl rfl rfl) ?_
    refine rg_put (d := 16) (v := .d (.fl undef)) rfl (on rfl rfl rfl rfl) ?_
    refine rg_put (d := 17) (v := .d (.fl undef)) rfl (on rfl rfl rfl rfl) ?_
    refine rg_put (d := 18) (v := .d (.fl undef)) rfl (on rfl rfl rfl rfl) ?_
    refine rg_put (d := 19) (v := .d (.fl undef)) rfl (on rfl rfl rfl rfl) ?_
    refine rg_put (d := 20) (v := .d (.fl (.bool true))) rfl (og rfl (op_pick rfl rfl rfl rfl)) ?_
    refine rg_put (d := 21) (v := .d (.fl (.bool true))) rfl (og rfl (op_move rfl rfl rfl)) ?_
    refine rg_put (d := 22) (v := .d (.fl undef)) rfl (on rfl rfl rfl rfl) ?_
    refine rg_put (d := 23) (v := .d (.fl undef)) rfl (on rfl rfl rfl rfl) ?_
    refine rg_put (d := 24) (v := .d (.fl undef)) rfl (on rfl rfl rfl rfl) ?_
    refine rg_put (d := 25) (v := .d (.fl undef)) rfl (on rfl rfl rfl rfl) ?_
    refine rg_put (d := 26) (v := .d (.fl undef)) rfl (on rfl rfl rfl rfl) ?_
    refine rg_put (d := 27) (v := .d (.fl undef)) rfl (on rfl rfl rfl rfl) ?_
    refine rg_put (d := 28) (v := .d (.fl (.bool true))) rfl (og rfl (op_pick rfl rfl rfl rfl)) ?_
    refine rg_done rfl ?_
    refine a_condK rfl rfl ?_
    refine a_rseq ?_
    refine rg_put (d := 4) (v := .d (.fl (.int .i64 (-1)))) rfl (og rfl (op_assign rfl rfl rfl)) ?_
    refine rg_done rfl ?_
    refine a_ret ?_
    show ∃ ds, ResL _ _ _ ds ∧ RV.of ds = _
    refine ⟨[.fl (.int .i64 (-1))], (.cons (.tmp rfl (.d _)) .nil), ?_⟩
    have hu : pr a b = (-1) := by unfold pr; unfold cst; simp only [h1, Bool.true_or, Bool.false_or, Bool.or_true, Bool.or_false, Bool.not_true, Bool.not_false, cond_true, cond_false] <;> rfl
    rw [hu]; rfl
set_option maxHeartbeats 4000000 in
set_option maxRecDepth 100000 in
theorem ax10 (p : Pg) (lane : Int) (s : Sn) (ha : -1099511627776 ≤ p.time ∧ p.time ≤ 1099511627776) (hb : -1099511627776 ≤ s.time ∧ s.time ≤ 1099511627776) : Ctr Try.prog 10 [.ag (ePg p), .fl (.int .i64 lane), .ag (eSn s)] (.d (.fl (.int .i64 (ax p lane s)))) := by
  have hd : dst p.time s.time = max p.time s.time - min p.time s.time := rfl
  refine ctr (n := 37) (rs := #[.tmp 6]) (L := [(0, .d (.ag (ePg p))), (1, .d (.fl (.int .i64 lane))), (2, .d (.ag (eSn s)))]) Try.func10 rfl rfl rfl rfl rfl (fun w0 U0 => ?_)
  refine a_rseq ?_
  refine rg_nam (d := 3) (v := .pt 101 0) (m := 101) (nw := [(101, .bx 28 (ePg p))]) rfl (og rfl (of_eff (op_box 101 rfl rfl rfl rfl) rfl)) rfl ?_
  refine rg_nam (d := 5) (v := .pt 102 0) (m := 102) (nw := [(102, .bx 25 (eSn s))]) rfl (og rfl (of_eff (op_box 102 rfl rfl rfl rfl) rfl)) rfl ?_
  refine rg_put (d := 6) (v := .d (.fl (.int .i64 0))) rfl (og rfl (op_assign rfl rfl rfl)) ?_
  refine rg_done rfl ?_
  refine a_rseq ?_
  refine rg_put (d := 9) (v := .pt 101 2) rfl (og rfl (of_eff (s_field_pt rfl Try.underlying28 rfl ti3 rfl rfl rfl) rfl)) ?_
  refine rg_put (d := 10) (v := .d (.fl (.int .i64 p.time))) rfl (og rfl (op_load_pt rfl Try.underlying3 rfl rfl rfl rfl rfl)) ?_
  refine rg_put (d := 11) (v := .pt 102 7) rfl (og rfl (of_eff (s_field_pt rfl Try.underlying25 rfl ti3 rfl rfl rfl) rfl)) ?_
  refine rg_put (d := 12) (v := .d (.fl (.int .i64 s.time))) rfl (og rfl (op_load_pt rfl Try.underlying3 rfl rfl rfl rfl rfl)) ?_
  refine rg_put (d := 13) (v := .d (.fl (.int .i64 (dst p.time s.time)))) rfl (og rfl (op_call rfl Try.func17 nm17 rfl (.cons rfl (.d _) (.cons rfl (.d _) .nil)) (dst17 p.time s.time (by omega) (by omega)) rfl)) ?_
  refine rg_put (d := 7) (v := .d (.fl (.int .i64 (dst p.time s.time)))) rfl (og rfl (op_assign rfl rfl rfl)) ?_
  refine rg_done rfl ?_
  refine a_seq ?_
  refine a_rseq ?_
  refine rg_put (d := 14) (v := .pt 102 10) rfl (og rfl (of_eff (s_field_pt rfl Try.underlying25 rfl ti3 rfl rfl rfl) rfl)) ?_
  refine rg_put (d := 15) (v := .d (.fl (.int .i64 s.kind))) rfl (og rfl (op_load_pt rfl Try.underlying3 rfl rfl rfl rfl rfl)) ?_
  refine rg_put (d := 16) (v := .d (.fl (.bool (s.kind != 3)))) rfl (og rfl (op_bin rfl rfl rfl (b_neq _ _ _ _) rfl)) ?_
  refine rg_put (d := 17) (v := .d (.fl (.bool (s.kind != 3)))) rfl (og rfl (op_move rfl rfl rfl)) ?_
  rcases fot (s.kind != 3) with h1 | h1
  · skip
    have h2 := f_bne h1
    refine rg_put (d := 18) (v := .pt 101 1) rfl (oy rfl rfl rfl h1 (of_eff (s_field_pt rfl Try.underlying28 rfl ti9 rfl rfl rfl) rfl)) ?_
    refine rg_put (d := 19) (v := .d (.fl (.string p.point))) rfl (oy rfl rfl rfl h1 (op_load_pt rfl Try.underlying9 rfl rfl rfl rfl rfl)) ?_
    refine rg_put (d := 20) (v := .pt 102 8) rfl (oy rfl rfl rfl h1 (of_eff (s_field_pt rfl Try.underlying25 rfl ti9 rfl rfl rfl) rfl)) ?_
    refine rg_put (d := 21) (v := .d (.fl (.string s.point))) rfl (oy rfl rfl rfl h1 (op_load_pt rfl Try.underlying9 rfl rfl rfl rfl rfl)) ?_
    refine rg_put (d := 22) (v := .d (.fl (.bool ((!(sEq p.point s.point)))))) rfl (oy rfl rfl rfl h1 (op_bin rfl rfl rfl (b_sne _ _ _) rfl)) ?_
    refine rg_put (d := 23) (v := .d (.fl (.bool ((!(sEq p.point s.point)))))) rfl (og rfl (op_pick rfl rfl (by rw [h1]; rfl) rfl)) ?_
    refine rg_put (d := 24) (v := .d (.fl (.bool ((!(sEq p.point s.point)))))) rfl (og rfl (op_move rfl rfl rfl)) ?_
    rcases fot ((!(sEq p.point s.point))) with h3 | h3
    · skip
      have h4 := f_not h3
      refine rg_put (d := 25) (v := .d (.fl (.int .i64 (dst p.time s.time)))) rfl (oy rfl rfl rfl h3 (op_move rfl rfl rfl)) ?_
      refine rg_put (d := 26) (v := .d (.fl (.bool ((decide (10 < (dst p.time s.time))))))) rfl (oy rfl rfl rfl h3 (op_bin rfl rfl rfl (b_gtr _ _ _ _) rfl)) ?_
      refine rg_put (d := 27) (v := .d (.fl (.bool ((decide (10 < (dst p.time s.time))))))) rfl (og rfl (op_pick rfl rfl (by rw [h3]; rfl) rfl)) ?_
      refine rg_done rfl ?_
      refine a_cond rfl (fun h5 => ?_) (fun h5 => ?_)
      · skip
        have h6 := t_dec h5
        refine a_rseq ?_
        refine rg_put (d := 6) (v := .d (.fl (.int .i64 (-1)))) rfl (og rfl (op_assign rfl rfl rfl)) ?_
        refine rg_done rfl ?_
        refine a_ret ?_
        show ∃ ds, ResL _ _ _ ds ∧ RV.of ds = _
        refine ⟨[.fl (.int .i64 (-1))], (.cons (.tmp rfl (.d _)) .nil), ?_⟩
        have hu : ax p lane s = (-1) := by unfold ax; unfold cst; simp only [h1, h3, h4, h5, Bool.true_or, Bool.false_or, Bool.or_true, Bool.or_false, Bool.not_true, Bool.not_false, cond_true, cond_false] <;> rfl
        rw [hu]; rfl
      · skip
        have h7 := f_dec h5
        refine a_skip ?_
        show A _ _ _ _ _ _ _
        refine a_rseq ?_
        refine rg_put (d := 28) (v := .d (.fl (.int .i64 (dst p.time s.time)))) rfl (og rfl (op_move rfl rfl rfl)) ?_
        refine rg_put (d := 29) (v := .d (.fl (.int .i64 ((5 * (dst p.time s.time)))))) rfl (og rfl (op_bin rfl rfl rfl (fun x y w => b_mul64 _ _ _ x y w (by omega)) rfl)) ?_
        refine rg_put (d := 8) (v := .d (.fl (.int .i64 ((5 * (dst p.time s.time)))))) rfl (og rfl (op_assign rfl rfl rfl)) ?_
        refine rg_done rfl ?_
        refine a_seq ?_
        refine a_rseq ?_
        refine rg_put (d := 30) (v := .pt 102 9) rfl (og rfl (of_eff (s_field_pt rfl Try.underlying25 rfl ti3 rfl rfl rfl) rfl)) ?_
        refine rg_put (d := 31) (v := .d (.fl (.int .i64 s.lane))) rfl (og rfl (op_load_pt rfl Try.underlying3 rfl rfl rfl rfl rfl)) ?_
        refine rg_put (d := 32) (v := .d (.fl (.int .i64 lane))) rfl (og rfl (op_move rfl rfl rfl)) ?_
        refine rg_put (d := 33) (v := .d (.fl (.bool (s.lane != lane)))) rfl (og rfl (op_bin rfl rfl rfl (b_neq _ _ _ _) rfl)) ?_
        refine rg_done rfl ?_
        refine a_cond rfl (fun h8 => ?_) (fun h8 => ?_)
        · skip
          have h9 := t_bne h8
          refine a_region ?_
          refine rg_put (d := 34) (v := .d (.fl (.int .i64 ((5 * (dst p.time s.time)))))) rfl (og rfl (op_move rfl rfl rfl)) ?_
          refine rg_put (d := 35) (v := .d (.fl (.int .i64 (((5 * (dst p.time s.time)) + 40))))) rfl (og rfl (op_bin rfl rfl rfl (fun x y w => b_add64 _ _ _ x y w (by omega)) rfl)) ?_
          refine rg_put (d := 8) (v := .d (.fl (.int .i64 (((5 * (dst p.time s.time)) + 40))))) rfl (og rfl (op_assign rfl rfl rfl)) ?_
          refine rg_done rfl ?_
          show A _ _ _ _ _ _ _
          refine a_rseq ?_
          refine rg_put (d := 36) (v := .d (.fl (.int .i64 (((5 * (dst p.time s.time)) + 40))))) rfl (og rfl (op_move rfl rfl rfl)) ?_
          refine rg_put (d := 6) (v := .d (.fl (.int .i64 (((5 * (dst p.time s.time)) + 40))))) rfl (og rfl (op_assign rfl rfl rfl)) ?_
          refine rg_done rfl ?_
          refine a_ret ?_
          show ∃ ds, ResL _ _ _ ds ∧ RV.of ds = _
          refine ⟨[.fl (.int .i64 (((5 * (dst p.time s.time)) + 40)))], (.cons (.tmp rfl (.d _)) .nil), ?_⟩
          have hu : ax p lane s = ((5 * (dst p.time s.time)) + 40) := by unfold ax; unfold cst; simp only [h1, h3, h4, h5, h8, Bool.true_or, Bool.false_or, Bool.or_true, Bool.or_false, Bool.not_true, Bool.not_false, cond_true, cond_false] <;> rfl
          rw [hu]; rfl
        · skip
          have h10 := f_bne h8
          refine a_skip ?_
          show A _ _ _ _ _ _ _
          refine a_rseq ?_
          refine rg_put (d := 36) (v := .d (.fl (.int .i64 ((5 * (dst p.time s.time)))))) rfl (og rfl (op_move rfl rfl rfl)) ?_
          refine rg_put (d := 6) (v := .d (.fl (.int .i64 ((5 * (dst p.time s.time)))))) rfl (og rfl (op_assign rfl rfl rfl)) ?_
          refine rg_done rfl ?_
          refine a_ret ?_
          show ∃ ds, ResL _ _ _ ds ∧ RV.of ds = _
          refine ⟨[.fl (.int .i64 ((5 * (dst p.time s.time))))], (.cons (.tmp rfl (.d _)) .nil), ?_⟩
          have hu : ax p lane s = (5 * (dst p.time s.time)) := by unfold ax; unfold cst; simp only [h1, h3, h4, h5, h8, Bool.true_or, Bool.false_or, Bool.or_true, Bool.or_false, Bool.not_true, Bool.not_false, cond_true, cond_false] <;> rfl
          rw [hu]; rfl
    · skip
      have h11 := t_not h3
      refine rg_put (d := 25) (v := .d (.fl undef)) rfl (on rfl rfl rfl h3) ?_
      refine rg_put (d := 26) (v := .d (.fl undef)) rfl (on rfl rfl rfl h3) ?_
      refine rg_put (d := 27) (v := .d (.fl (.bool true))) rfl (og rfl (op_pick rfl rfl (by rw [h3]; rfl) rfl)) ?_
      refine rg_done rfl ?_
      refine a_condK rfl rfl ?_
      refine a_rseq ?_
      refine rg_put (d := 6) (v := .d (.fl (.int .i64 (-1)))) rfl (og rfl (op_assign rfl rfl rfl)) ?_
      refine rg_done rfl ?_
      refine a_ret ?_
      show ∃ ds, ResL _ _ _ ds ∧ RV.of ds = _
      refine ⟨[.fl (.int .i64 (-1))], (.cons (.tmp rfl (.d _)) .nil), ?_⟩
      have hu : ax p lane s = (-1) := by unfold ax; unfold cst; simp only [h1, h3, h11, Bool.true_or, Bool.false_or, Bool.or_true, Bool.or_false, Bool.not_true, Bool.not_false, cond_true, cond_false] <;> rfl
      rw [hu]; rfl
  · skip
    have h12 := t_bne h1
    refine rg_put (d := 18) (v := .d (.fl undef)) rfl (on rfl rfl rfl h1) ?_
    refine rg_put (d := 19) (v := .d (.fl undef)) rfl (on rfl rfl rfl h1) ?_
    refine rg_put (d := 20) (v := .d (.fl undef)) rfl (on rfl rfl rfl h1) ?_
    refine rg_put (d := 21) (v := .d (.fl undef)) rfl (on rfl rfl rfl h1) ?_
    refine rg_put (d := 22) (v := .d (.fl undef)) rfl (on rfl rfl rfl h1) ?_
    refine rg_put (d := 23) (v := .d (.fl (.bool true))) rfl (og rfl (op_pick rfl rfl (by rw [h1]; rfl) rfl)) ?_
    refine rg_put (d := 24) (v := .d (.fl (.bool true))) rfl (og rfl (op_move rfl rfl rfl)) ?_
    refine rg_put (d := 25) (v := .d (.fl undef)) rfl (on rfl rfl rfl rfl) ?_
    refine rg_put (d := 26) (v := .d (.fl undef)) rfl (on rfl rfl rfl rfl) ?_
    refine rg_put (d := 27) (v := .d (.fl (.bool true))) rfl (og rfl (op_pick rfl rfl rfl rfl)) ?_
    refine rg_done rfl ?_
    refine a_condK rfl rfl ?_
    refine a_rseq ?_
    refine rg_put (d := 6) (v := .d (.fl (.int .i64 (-1)))) rfl (og rfl (op_assign rfl rfl rfl)) ?_
    refine rg_done rfl ?_
    refine a_ret ?_
    show ∃ ds, ResL _ _ _ ds ∧ RV.of ds = _
    refine ⟨[.fl (.int .i64 (-1))], (.cons (.tmp rfl (.d _)) .nil), ?_⟩
    have hu : ax p lane s = (-1) := by unfold ax; unfold cst; simp only [h1, Bool.true_or, Bool.false_or, Bool.or_true, Bool.or_false, Bool.not_true, Bool.not_false, cond_true, cond_false] <;> rfl
    rw [hu]; rfl
set_option maxHeartbeats 4000000 in
set_option maxRecDepth 100000 in
theorem ax11 (p : Pg) (lane : Int) (s : Sn) (ha : -1099511627776 ≤ p.time ∧ p.time ≤ 1099511627776) (hb : -1099511627776 ≤ s.time ∧ s.time ≤ 1099511627776) : Ctr Try.prog 11 [.ag (ePg p), .fl (.int .i64 lane), .ag (eSn s)] (.d (.fl (.int .i64 (ax p lane s)))) := by
  have hd : dst p.time s.time = max p.time s.time - min p.time s.time := rfl
  refine ctr (n := 39) (rs := #[.tmp 6]) (L := [(0, .d (.ag (ePg p))), (1, .d (.fl (.int .i64 lane))), (2, .d (.ag (eSn s)))]) Try.func11 rfl rfl rfl rfl rfl (fun w0 U0 => ?_)
  refine a_rseq ?_
  refine rg_nam (d := 3) (v := .pt 101 0) (m := 101) (nw := [(101, .bx 28 (ePg p))]) rfl (og rfl (of_eff (op_box 101 rfl rfl rfl rfl) rfl)) rfl ?_
  refine rg_nam (d := 5) (v := .pt 102 0) (m := 102) (nw := [(102, .bx 25 (eSn s))]) rfl (og rfl (of_eff (op_box 102 rfl rfl rfl rfl) rfl)) rfl ?_
  refine rg_put (d := 6) (v := .d (.fl (.int .i64 0))) rfl (og rfl (op_assign rfl rfl rfl)) ?_
  refine rg_done rfl ?_
  refine a_seq ?_
  refine a_rseq ?_
  refine rg_put (d := 8) (v := .pt 102 10) rfl (og rfl (of_eff (s_field_pt rfl Try.underlying25 rfl ti3 rfl rfl rfl) rfl)) ?_
  refine rg_put (d := 9) (v := .d (.fl (.int .i64 s.kind))) rfl (og rfl (op_load_pt rfl Try.underlying3 rfl rfl rfl rfl rfl)) ?_
  refine rg_put (d := 10) (v := .d (.fl (.bool (s.kind != 3)))) rfl (og rfl (op_bin rfl rfl rfl (b_neq _ _ _ _) rfl)) ?_
  refine rg_put (d := 11) (v := .d (.fl (.bool (s.kind != 3)))) rfl (og rfl (op_move rfl rfl rfl)) ?_
  rcases fot (s.kind != 3) with h1 | h1
  · skip
    have h2 := f_bne h1
    refine rg_put (d := 12) (v := .pt 101 1) rfl (oy rfl rfl rfl h1 (of_eff (s_field_pt rfl Try.underlying28 rfl ti9 rfl rfl rfl) rfl)) ?_
    refine rg_put (d := 13) (v := .d (.fl (.string p.point))) rfl (oy rfl rfl rfl h1 (op_load_pt rfl Try.underlying9 rfl rfl rfl rfl rfl)) ?_
    refine rg_put (d := 14) (v := .pt 102 8) rfl (oy rfl rfl rfl h1 (of_eff (s_field_pt rfl Try.underlying25 rfl ti9 rfl rfl rfl) rfl)) ?_
    refine rg_put (d := 15) (v := .d (.fl (.string s.point))) rfl (oy rfl rfl rfl h1 (op_load_pt rfl Try.underlying9 rfl rfl rfl rfl rfl)) ?_
    refine rg_put (d := 16) (v := .d (.fl (.bool ((!(sEq p.point s.point)))))) rfl (oy rfl rfl rfl h1 (op_bin rfl rfl rfl (b_sne _ _ _) rfl)) ?_
    refine rg_put (d := 17) (v := .d (.fl (.bool ((!(sEq p.point s.point)))))) rfl (og rfl (op_pick rfl rfl (by rw [h1]; rfl) rfl)) ?_
    refine rg_put (d := 18) (v := .d (.fl (.bool ((!(sEq p.point s.point)))))) rfl (og rfl (op_move rfl rfl rfl)) ?_
    rcases fot ((!(sEq p.point s.point))) with h3 | h3
    · skip
      have h4 := f_not h3
      refine rg_put (d := 19) (v := .pt 101 2) rfl (oy rfl rfl rfl h3 (of_eff (s_field_pt rfl Try.underlying28 rfl ti3 rfl rfl rfl) rfl)) ?_
      refine rg_put (d := 20) (v := .d (.fl (.int .i64 p.time))) rfl (oy rfl rfl rfl h3 (op_load_pt rfl Try.underlying3 rfl rfl rfl rfl rfl)) ?_
      refine rg_put (d := 21) (v := .pt 102 7) rfl (oy rfl rfl rfl h3 (of_eff (s_field_pt rfl Try.underlying25 rfl ti3 rfl rfl rfl) rfl)) ?_
      refine rg_put (d := 22) (v := .d (.fl (.int .i64 s.time))) rfl (oy rfl rfl rfl h3 (op_load_pt rfl Try.underlying3 rfl rfl rfl rfl rfl)) ?_
      refine rg_put (d := 23) (v := .d (.fl (.int .i64 (dst p.time s.time)))) rfl (oy rfl rfl rfl h3 (op_call rfl Try.func19 nm19 rfl (.cons rfl (.d _) (.cons rfl (.d _) .nil)) (dst19 p.time s.time (by omega) (by omega)) rfl)) ?_
      refine rg_put (d := 24) (v := .d (.fl (.bool ((decide (10 < (dst p.time s.time))))))) rfl (oy rfl rfl rfl h3 (op_bin rfl rfl rfl (b_gtr _ _ _ _) rfl)) ?_
      refine rg_put (d := 25) (v := .d (.fl (.bool ((decide (10 < (dst p.time s.time))))))) rfl (og rfl (op_pick rfl rfl (by rw [h3]; rfl) rfl)) ?_
      refine rg_done rfl ?_
      refine a_cond rfl (fun h5 => ?_) (fun h5 => ?_)
      · skip
        have h6 := t_dec h5
        refine a_rseq ?_
        refine rg_put (d := 6) (v := .d (.fl (.int .i64 (-1)))) rfl (og rfl (op_assign rfl rfl rfl)) ?_
        refine rg_done rfl ?_
        refine a_ret ?_
        show ∃ ds, ResL _ _ _ ds ∧ RV.of ds = _
        refine ⟨[.fl (.int .i64 (-1))], (.cons (.tmp rfl (.d _)) .nil), ?_⟩
        have hu : ax p lane s = (-1) := by unfold ax; unfold cst; simp only [h1, h3, h4, h5, Bool.true_or, Bool.false_or, Bool.or_true, Bool.or_false, Bool.not_true, Bool.not_false, cond_true, cond_false] <;> rfl
        rw [hu]; rfl
      · skip
        have h7 := f_dec h5
        refine a_skip ?_
        show A _ _ _ _ _ _ _
        refine a_rseq ?_
        refine rg_put (d := 26) (v := .pt 101 2) rfl (og rfl (of_eff (s_field_pt rfl Try.underlying28 rfl ti3 rfl rfl rfl) rfl)) ?_
        refine rg_put (d := 27) (v := .d (.fl (.int .i64 p.time))) rfl (og rfl (op_load_pt rfl Try.underlying3 rfl rfl rfl rfl rfl)) ?_
        refine rg_put (d := 28) (v := .pt 102 7) rfl (og rfl (of_eff (s_field_pt rfl Try.underlying25 rfl ti3 rfl rfl rfl) rfl)) ?_
        refine rg_put (d := 29) (v := .d (.fl (.int .i64 s.time))) rfl (og rfl (op_load_pt rfl Try.underlying3 rfl rfl rfl rfl rfl)) ?_
        refine rg_put (d := 30) (v := .d (.fl (.int .i64 (dst p.time s.time)))) rfl (og rfl (op_call rfl Try.func19 nm19 rfl (.cons rfl (.d _) (.cons rfl (.d _) .nil)) (dst19 p.time s.time (by omega) (by omega)) rfl)) ?_
        refine rg_put (d := 31) (v := .d (.fl (.int .i64 ((5 * (dst p.time s.time)))))) rfl (og rfl (op_bin rfl rfl rfl (fun x y w => b_mul64 _ _ _ x y w (by omega)) rfl)) ?_
        refine rg_put (d := 7) (v := .d (.fl (.int .i64 ((5 * (dst p.time s.time)))))) rfl (og rfl (op_assign rfl rfl rfl)) ?_
        refine rg_done rfl ?_
        refine a_seq ?_
        refine a_rseq ?_
        refine rg_put (d := 32) (v := .pt 102 9) rfl (og rfl (of_eff (s_field_pt rfl Try.underlying25 rfl ti3 rfl rfl rfl) rfl)) ?_
        refine rg_put (d := 33) (v := .d (.fl (.int .i64 s.lane))) rfl (og rfl (op_load_pt rfl Try.underlying3 rfl rfl rfl rfl rfl)) ?_
        refine rg_put (d := 34) (v := .d (.fl (.int .i64 lane))) rfl (og rfl (op_move rfl rfl rfl)) ?_
        refine rg_put (d := 35) (v := .d (.fl (.bool (s.lane != lane)))) rfl (og rfl (op_bin rfl rfl rfl (b_neq _ _ _ _) rfl)) ?_
        refine rg_done rfl ?_
        refine a_cond rfl (fun h8 => ?_) (fun h8 => ?_)
        · skip
          have h9 := t_bne h8
          refine a_region ?_
          refine rg_put (d := 36) (v := .d (.fl (.int .i64 ((5 * (dst p.time s.time)))))) rfl (og rfl (op_move rfl rfl rfl)) ?_
          refine rg_put (d := 37) (v := .d (.fl (.int .i64 (((5 * (dst p.time s.time)) + 40))))) rfl (og rfl (op_bin rfl rfl rfl (fun x y w => b_add64 _ _ _ x y w (by omega)) rfl)) ?_
          refine rg_put (d := 7) (v := .d (.fl (.int .i64 (((5 * (dst p.time s.time)) + 40))))) rfl (og rfl (op_assign rfl rfl rfl)) ?_
          refine rg_done rfl ?_
          show A _ _ _ _ _ _ _
          refine a_rseq ?_
          refine rg_put (d := 38) (v := .d (.fl (.int .i64 (((5 * (dst p.time s.time)) + 40))))) rfl (og rfl (op_move rfl rfl rfl)) ?_
          refine rg_put (d := 6) (v := .d (.fl (.int .i64 (((5 * (dst p.time s.time)) + 40))))) rfl (og rfl (op_assign rfl rfl rfl)) ?_
          refine rg_done rfl ?_
          refine a_ret ?_
          show ∃ ds, ResL _ _ _ ds ∧ RV.of ds = _
          refine ⟨[.fl (.int .i64 (((5 * (dst p.time s.time)) + 40)))], (.cons (.tmp rfl (.d _)) .nil), ?_⟩
          have hu : ax p lane s = ((5 * (dst p.time s.time)) + 40) := by unfold ax; unfold cst; simp only [h1, h3, h4, h5, h8, Bool.true_or, Bool.false_or, Bool.or_true, Bool.or_false, Bool.not_true, Bool.not_false, cond_true, cond_false] <;> rfl
          rw [hu]; rfl
        · skip
          have h10 := f_bne h8
          refine a_skip ?_
          show A _ _ _ _ _ _ _
          refine a_rseq ?_
          refine rg_put (d := 38) (v := .d (.fl (.int .i64 ((5 * (dst p.time s.time)))))) rfl (og rfl (op_move rfl rfl rfl)) ?_
          refine rg_put (d := 6) (v := .d (.fl (.int .i64 ((5 * (dst p.time s.time)))))) rfl (og rfl (op_assign rfl rfl rfl)) ?_
          refine rg_done rfl ?_
          refine a_ret ?_
          show ∃ ds, ResL _ _ _ ds ∧ RV.of ds = _
          refine ⟨[.fl (.int .i64 ((5 * (dst p.time s.time))))], (.cons (.tmp rfl (.d _)) .nil), ?_⟩
          have hu : ax p lane s = (5 * (dst p.time s.time)) := by unfold ax; unfold cst; simp only [h1, h3, h4, h5, h8, Bool.true_or, Bool.false_or, Bool.or_true, Bool.or_false, Bool.not_true, Bool.not_false, cond_true, cond_false] <;> rfl
          rw [hu]; rfl
    · skip
      have h11 := t_not h3
      refine rg_put (d := 19) (v := .d (.fl undef)) rfl (on rfl rfl rfl h3) ?_
      refine rg_put (d := 20) (v := .d (.fl undef)) rfl (on rfl rfl rfl h3) ?_
      refine rg_put (d := 21) (v := .d (.fl undef)) rfl (on rfl rfl rfl h3) ?_
      refine rg_put (d := 22) (v := .d (.fl undef)) rfl (on rfl rfl rfl h3) ?_
      refine rg_put (d := 23) (v := .d (.fl undef)) rfl (on rfl rfl rfl h3) ?_
      refine rg_put (d := 24) (v := .d (.fl undef)) rfl (on rfl rfl rfl h3) ?_
      refine rg_put (d := 25) (v := .d (.fl (.bool true))) rfl (og rfl (op_pick rfl rfl (by rw [h3]; rfl) rfl)) ?_
      refine rg_done rfl ?_
      refine a_condK rfl rfl ?_
      refine a_rseq ?_
      refine rg_put (d := 6) (v := .d (.fl (.int .i64 (-1)))) rfl (og rfl (op_assign rfl rfl rfl)) ?_
      refine rg_done rfl ?_
      refine a_ret ?_
      show ∃ ds, ResL _ _ _ ds ∧ RV.of ds = _
      refine ⟨[.fl (.int .i64 (-1))], (.cons (.tmp rfl (.d _)) .nil), ?_⟩
      have hu : ax p lane s = (-1) := by unfold ax; unfold cst; simp only [h1, h3, h11, Bool.true_or, Bool.false_or, Bool.or_true, Bool.or_false, Bool.not_true, Bool.not_false, cond_true, cond_false] <;> rfl
      rw [hu]; rfl
  · skip
    have h12 := t_bne h1
    refine rg_put (d := 12) (v := .d (.fl undef)) rfl (on rfl rfl rfl h1) ?_
    refine rg_put (d := 13) (v := .d (.fl undef)) rfl (on rfl rfl rfl h1) ?_
    refine rg_put (d := 14) (v := .d (.fl undef)) rfl (on rfl rfl rfl h1) ?_
    refine rg_put (d := 15) (v := .d (.fl undef)) rfl (on rfl rfl rfl h1) ?_
    refine rg_put (d := 16) (v := .d (.fl undef)) rfl (on rfl rfl rfl h1) ?_
    refine rg_put (d := 17) (v := .d (.fl (.bool true))) rfl (og rfl (op_pick rfl rfl (by rw [h1]; rfl) rfl)) ?_
    refine rg_put (d := 18) (v := .d (.fl (.bool true))) rfl (og rfl (op_move rfl rfl rfl)) ?_
    refine rg_put (d := 19) (v := .d (.fl undef)) rfl (on rfl rfl rfl rfl) ?_
    refine rg_put (d := 20) (v := .d (.fl undef)) rfl (on rfl rfl rfl rfl) ?_
    refine rg_put (d := 21) (v := .d (.fl undef)) rfl (on rfl rfl rfl rfl) ?_
    refine rg_put (d := 22) (v := .d (.fl undef)) rfl (on rfl rfl rfl rfl) ?_
    refine rg_put (d := 23) (v := .d (.fl undef)) rfl (on rfl rfl rfl rfl) ?_
    refine rg_put (d := 24) (v := .d (.fl undef)) rfl (on rfl rfl rfl rfl) ?_
    refine rg_put (d := 25) (v := .d (.fl (.bool true))) rfl (og rfl (op_pick rfl rfl rfl rfl)) ?_
    refine rg_done rfl ?_
    refine a_condK rfl rfl ?_
    refine a_rseq ?_
    refine rg_put (d := 6) (v := .d (.fl (.int .i64 (-1)))) rfl (og rfl (op_assign rfl rfl rfl)) ?_
    refine rg_done rfl ?_
    refine a_ret ?_
    show ∃ ds, ResL _ _ _ ds ∧ RV.of ds = _
    refine ⟨[.fl (.int .i64 (-1))], (.cons (.tmp rfl (.d _)) .nil), ?_⟩
    have hu : ax p lane s = (-1) := by unfold ax; unfold cst; simp only [h1, Bool.true_or, Bool.false_or, Bool.or_true, Bool.or_false, Bool.not_true, Bool.not_false, cond_true, cond_false] <;> rfl
    rw [hu]; rfl
set_option maxHeartbeats 4000000 in
set_option maxRecDepth 100000 in
theorem conf12 (best margin : Int) (hb : 0 ≤ best ∧ best ≤ 34359738368) (hm : -1 ≤ margin ∧ margin ≤ 34359738368) : Ctr Try.prog 12 [.fl (.int .i64 best), .fl (.int .i64 margin)] (.d (.fl (.int .i64 (conf best margin)))) := by
  refine ctr (n := 14) (rs := #[.tmp 4]) (L := [(0, .d (.fl (.int .i64 best))), (1, .d (.fl (.int .i64 margin)))]) Try.func12 rfl rfl rfl rfl rfl (fun w0 U0 => ?_)
  refine a_rseq ?_
  refine rg_put (d := 4) (v := .d (.fl (.int .i64 0))) rfl (og rfl (op_assign rfl rfl rfl)) ?_
  refine rg_done rfl ?_
  refine a_seq ?_
  refine a_rseq ?_
  refine rg_put (d := 5) (v := .d (.fl (.int .i64 margin))) rfl (og rfl (op_move rfl rfl rfl)) ?_
  refine rg_put (d := 6) (v := .d (.fl (.bool ((margin == (-1)))))) rfl (og rfl (op_bin rfl rfl rfl (b_eql _ _ _ _) rfl)) ?_
  refine rg_done rfl ?_
  refine a_cond rfl (fun h1 => ?_) (fun h1 => ?_)
  · skip
    have h2 := t_beq h1
    refine a_region ?_
    refine rg_put (d := 1) (v := .d (.fl (.int .i64 1000))) rfl (og rfl (op_assign rfl rfl rfl)) ?_
    refine rg_done rfl ?_
    show A _ _ _ _ _ _ _
    refine a_rseq ?_
    refine rg_put (d := 7) (v := .d (.fl (.int .i64 1000))) rfl (og rfl (op_move rfl rfl rfl)) ?_
    refine rg_put (d := 8) (v := .d (.fl (.int .i64 (2 * 1000)))) rfl (og rfl (op_bin rfl rfl rfl (fun x y w => b_mul64 _ _ _ x y w (by omega)) rfl)) ?_
    refine rg_put (d := 9) (v := .d (.fl (.int .i64 ((600 + (2 * 1000)))))) rfl (og rfl (op_bin rfl rfl rfl (fun x y w => b_add64 _ _ _ x y w (by omega)) rfl)) ?_
    refine rg_put (d := 10) (v := .d (.fl (.int .i64 best))) rfl (og rfl (op_move rfl rfl rfl)) ?_
    refine rg_put (d := 11) (v := .d (.fl (.int .i64 (((600 + (2 * 1000)) - best))))) rfl (og rfl (op_bin rfl rfl rfl (fun x y w => b_sub64 _ _ _ x y w (by omega)) rfl)) ?_
    refine rg_put (d := 12) (v := .d (.fl (.int .i64 ((max (((600 + (2 * 1000)) - best)) 0))))) rfl (og rfl (op_max rfl rfl rfl rfl)) ?_
    refine rg_put (d := 13) (v := .d (.fl (.int .i64 ((min ((max (((600 + (2 * 1000)) - best)) 0)) 1000))))) rfl (og rfl (op_min rfl rfl rfl rfl)) ?_
    refine rg_put (d := 4) (v := .d (.fl (.int .i64 ((min ((max (((600 + (2 * 1000)) - best)) 0)) 1000))))) rfl (og rfl (op_assign rfl rfl rfl)) ?_
    refine rg_done rfl ?_
    refine a_ret ?_
    show ∃ ds, ResL _ _ _ ds ∧ RV.of ds = _
    refine ⟨[.fl (.int .i64 ((min ((max (((600 + (2 * 1000)) - best)) 0)) 1000)))], (.cons (.tmp rfl (.d _)) .nil), ?_⟩
    have hu : conf best margin = (min ((max (((600 + (2 * 1000)) - best)) 0)) 1000) := by unfold conf; split <;> omega
    rw [hu]; rfl
  · skip
    have h3 := f_beq h1
    refine a_skip ?_
    show A _ _ _ _ _ _ _
    refine a_rseq ?_
    refine rg_put (d := 7) (v := .d (.fl (.int .i64 margin))) rfl (og rfl (op_move rfl rfl rfl)) ?_
    refine rg_put (d := 8) (v := .d (.fl (.int .i64 (2 * margin)))) rfl (og rfl (op_bin rfl rfl rfl (fun x y w => b_mul64 _ _ _ x y w (by omega)) rfl)) ?_
    refine rg_put (d := 9) (v := .d (.fl (.int .i64 ((600 + (2 * margin)))))) rfl (og rfl (op_bin rfl rfl rfl (fun x y w => b_add64 _ _ _ x y w (by omega)) rfl)) ?_
    refine rg_put (d := 10) (v := .d (.fl (.int .i64 best))) rfl (og rfl (op_move rfl rfl rfl)) ?_
    refine rg_put (d := 11) (v := .d (.fl (.int .i64 (((600 + (2 * margin)) - best))))) rfl (og rfl (op_bin rfl rfl rfl (fun x y w => b_sub64 _ _ _ x y w (by omega)) rfl)) ?_
    refine rg_put (d := 12) (v := .d (.fl (.int .i64 ((max (((600 + (2 * margin)) - best)) 0))))) rfl (og rfl (op_max rfl rfl rfl rfl)) ?_
    refine rg_put (d := 13) (v := .d (.fl (.int .i64 ((min ((max (((600 + (2 * margin)) - best)) 0)) 1000))))) rfl (og rfl (op_min rfl rfl rfl rfl)) ?_
    refine rg_put (d := 4) (v := .d (.fl (.int .i64 ((min ((max (((600 + (2 * margin)) - best)) 0)) 1000))))) rfl (og rfl (op_assign rfl rfl rfl)) ?_
    refine rg_done rfl ?_
    refine a_ret ?_
    show ∃ ds, ResL _ _ _ ds ∧ RV.of ds = _
    refine ⟨[.fl (.int .i64 ((min ((max (((600 + (2 * margin)) - best)) 0)) 1000)))], (.cons (.tmp rfl (.d _)) .nil), ?_⟩
    have hu : conf best margin = (min ((max (((600 + (2 * margin)) - best)) 0)) 1000) := by unfold conf; split <;> omega
    rw [hu]; rfl
set_option maxHeartbeats 4000000 in
set_option maxRecDepth 100000 in
theorem conf13 (best margin : Int) (hb : 0 ≤ best ∧ best ≤ 34359738368) (hm : -1 ≤ margin ∧ margin ≤ 34359738368) : Ctr Try.prog 13 [.fl (.int .i64 best), .fl (.int .i64 margin)] (.d (.fl (.int .i64 (conf best margin)))) := by
  refine ctr (n := 19) (rs := #[.tmp 4]) (L := [(0, .d (.fl (.int .i64 best))), (1, .d (.fl (.int .i64 margin)))]) Try.func13 rfl rfl rfl rfl rfl (fun w0 U0 => ?_)
  refine a_rseq ?_
  refine rg_put (d := 4) (v := .d (.fl (.int .i64 0))) rfl (og rfl (op_assign rfl rfl rfl)) ?_
  refine rg_done rfl ?_
  refine a_rseq ?_
  refine rg_put (d := 6) (v := .d (.fl (.int .i64 margin))) rfl (og rfl (op_move rfl rfl rfl)) ?_
  refine rg_put (d := 5) (v := .d (.fl (.int .i64 margin))) rfl (og rfl (op_assign rfl rfl rfl)) ?_
  refine rg_done rfl ?_
  refine a_seq ?_
  refine a_rseq ?_
  refine rg_put (d := 7) (v := .d (.fl (.int .i64 margin))) rfl (og rfl (op_move rfl rfl rfl)) ?_
  refine rg_put (d := 8) (v := .d (.fl (.bool ((margin == (-1)))))) rfl (og rfl (op_bin rfl rfl rfl (b_eql _ _ _ _) rfl)) ?_
  refine rg_done rfl ?_
  refine a_cond rfl (fun h1 => ?_) (fun h1 => ?_)
  · skip
    have h2 := t_beq h1
    refine a_region ?_
    refine rg_put (d := 5) (v := .d (.fl (.int .i64 1000))) rfl (og rfl (op_assign rfl rfl rfl)) ?_
    refine rg_done rfl ?_
    show A _ _ _ _ _ _ _
    refine a_rseq ?_
    refine rg_put (d := 9) (v := .d (.fl (.int .i64 1000))) rfl (og rfl (op_move rfl rfl rfl)) ?_
    refine rg_put (d := 10) (v := .d (.fl (.int .i64 (2 * 1000)))) rfl (og rfl (op_bin rfl rfl rfl (fun x y w => b_mul64 _ _ _ x y w (by omega)) rfl)) ?_
    refine rg_put (d := 11) (v := .d (.fl (.int .i64 ((600 + (2 * 1000)))))) rfl (og rfl (op_bin rfl rfl rfl (fun x y w => b_add64 _ _ _ x y w (by omega)) rfl)) ?_
    refine rg_put (d := 12) (v := .d (.fl (.int .i64 best))) rfl (og rfl (op_move rfl rfl rfl)) ?_
    refine rg_put (d := 13) (v := .d (.fl (.int .i64 (((600 + (2 * 1000)) - best))))) rfl (og rfl (op_bin rfl rfl rfl (fun x y w => b_sub64 _ _ _ x y w (by omega)) rfl)) ?_
    refine rg_put (d := 5) (v := .d (.fl (.int .i64 (((600 + (2 * 1000)) - best))))) rfl (og rfl (op_assign rfl rfl rfl)) ?_
    refine rg_done rfl ?_
    refine a_seq ?_
    refine a_rseq ?_
    refine rg_put (d := 14) (v := .d (.fl (.int .i64 (((600 + (2 * 1000)) - best))))) rfl (og rfl (op_move rfl rfl rfl)) ?_
    refine rg_put (d := 15) (v := .d (.fl (.bool ((decide (((600 + (2 * 1000)) - best) < 0)))))) rfl (og rfl (op_bin rfl rfl rfl (b_lss _ _ _ _) rfl)) ?_
    refine rg_done rfl ?_
    refine a_cond rfl (fun h3 => ?_) (fun h3 => ?_)
    · skip
      have h4 := t_dec h3
      refine a_rseq ?_
      refine rg_put (d := 4) (v := .d (.fl (.int .i64 0))) rfl (og rfl (op_assign rfl rfl rfl)) ?_
      refine rg_done rfl ?_
      refine a_ret ?_
      show ∃ ds, ResL _ _ _ ds ∧ RV.of ds = _
      refine ⟨[.fl (.int .i64 0)], (.cons (.tmp rfl (.d _)) .nil), ?_⟩
      have hu : conf best margin = 0 := by unfold conf; split <;> omega
      rw [hu]; rfl
    · skip
      have h5 := f_dec h3
      refine a_skip ?_
      show A _ _ _ _ _ _ _
      refine a_seq ?_
      refine a_rseq ?_
      refine rg_put (d := 16) (v := .d (.fl (.int .i64 (((600 + (2 * 1000)) - best))))) rfl (og rfl (op_move rfl rfl rfl)) ?_
      refine rg_put (d := 17) (v := .d (.fl (.bool ((decide (1000 < ((600 + (2 * 1000)) - best))))))) rfl (og rfl (op_bin rfl rfl rfl (b_gtr _ _ _ _) rfl)) ?_
      refine rg_done rfl ?_
      refine a_cond rfl (fun h6 => ?_) (fun h6 => ?_)
      · skip
        have h7 := t_dec h6
        refine a_rseq ?_
        refine rg_put (d := 4) (v := .d (.fl (.int .i64 1000))) rfl (og rfl (op_assign rfl rfl rfl)) ?_
        refine rg_done rfl ?_
        refine a_ret ?_
        show ∃ ds, ResL _ _ _ ds ∧ RV.of ds = _
        refine ⟨[.fl (.int .i64 1000)], (.cons (.tmp rfl (.d _)) .nil), ?_⟩
        have hu : conf best margin = 1000 := by unfold conf; split <;> omega
        rw [hu]; rfl
      · skip
        have h8 := f_dec h6
        refine a_skip ?_
        show A _ _ _ _ _ _ _
        refine a_rseq ?_
        refine rg_put (d := 18) (v := .d (.fl (.int .i64 (((600 + (2 * 1000)) - best))))) rfl (og rfl (op_move rfl rfl rfl)) ?_
        refine rg_put (d := 4) (v := .d (.fl (.int .i64 (((600 + (2 * 1000)) - best))))) rfl (og rfl (op_assign rfl rfl rfl)) ?_
        refine rg_done rfl ?_
        refine a_ret ?_
        show ∃ ds, ResL _ _ _ ds ∧ RV.of ds = _
        refine ⟨[.fl (.int .i64 (((600 + (2 * 1000)) - best)))], (.cons (.tmp rfl (.d _)) .nil), ?_⟩
        have hu : conf best margin = ((600 + (2 * 1000)) - best) := by unfold conf; split <;> omega
        rw [hu]; rfl
  · skip
    have h9 := f_beq h1
    refine a_skip ?_
    show A _ _ _ _ _ _ _
    refine a_rseq ?_
    refine rg_put (d := 9) (v := .d (.fl (.int .i64 margin))) rfl (og rfl (op_move rfl rfl rfl)) ?_
    refine rg_put (d := 10) (v := .d (.fl (.int .i64 (2 * margin)))) rfl (og rfl (op_bin rfl rfl rfl (fun x y w => b_mul64 _ _ _ x y w (by omega)) rfl)) ?_
    refine rg_put (d := 11) (v := .d (.fl (.int .i64 ((600 + (2 * margin)))))) rfl (og rfl (op_bin rfl rfl rfl (fun x y w => b_add64 _ _ _ x y w (by omega)) rfl)) ?_
    refine rg_put (d := 12) (v := .d (.fl (.int .i64 best))) rfl (og rfl (op_move rfl rfl rfl)) ?_
    refine rg_put (d := 13) (v := .d (.fl (.int .i64 (((600 + (2 * margin)) - best))))) rfl (og rfl (op_bin rfl rfl rfl (fun x y w => b_sub64 _ _ _ x y w (by omega)) rfl)) ?_
    refine rg_put (d := 5) (v := .d (.fl (.int .i64 (((600 + (2 * margin)) - best))))) rfl (og rfl (op_assign rfl rfl rfl)) ?_
    refine rg_done rfl ?_
    refine a_seq ?_
    refine a_rseq ?_
    refine rg_put (d := 14) (v := .d (.fl (.int .i64 (((600 + (2 * margin)) - best))))) rfl (og rfl (op_move rfl rfl rfl)) ?_
    refine rg_put (d := 15) (v := .d (.fl (.bool ((decide (((600 + (2 * margin)) - best) < 0)))))) rfl (og rfl (op_bin rfl rfl rfl (b_lss _ _ _ _) rfl)) ?_
    refine rg_done rfl ?_
    refine a_cond rfl (fun h10 => ?_) (fun h10 => ?_)
    · skip
      have h11 := t_dec h10
      refine a_rseq ?_
      refine rg_put (d := 4) (v := .d (.fl (.int .i64 0))) rfl (og rfl (op_assign rfl rfl rfl)) ?_
      refine rg_done rfl ?_
      refine a_ret ?_
      show ∃ ds, ResL _ _ _ ds ∧ RV.of ds = _
      refine ⟨[.fl (.int .i64 0)], (.cons (.tmp rfl (.d _)) .nil), ?_⟩
      have hu : conf best margin = 0 := by unfold conf; split <;> omega
      rw [hu]; rfl
    · skip
      have h12 := f_dec h10
      refine a_skip ?_
      show A _ _ _ _ _ _ _
      refine a_seq ?_
      refine a_rseq ?_
      refine rg_put (d := 16) (v := .d (.fl (.int .i64 (((600 + (2 * margin)) - best))))) rfl (og rfl (op_move rfl rfl rfl)) ?_
      refine rg_put (d := 17) (v := .d (.fl (.bool ((decide (1000 < ((600 + (2 * margin)) - best))))))) rfl (og rfl (op_bin rfl rfl rfl (b_gtr _ _ _ _) rfl)) ?_
      refine rg_done rfl ?_
      refine a_cond rfl (fun h13 => ?_) (fun h13 => ?_)
      · skip
        have h14 := t_dec h13
        refine a_rseq ?_
        refine rg_put (d := 4) (v := .d (.fl (.int .i64 1000))) rfl (og rfl (op_assign rfl rfl rfl)) ?_
        refine rg_done rfl ?_
        refine a_ret ?_
        show ∃ ds, ResL _ _ _ ds ∧ RV.of ds = _
        refine ⟨[.fl (.int .i64 1000)], (.cons (.tmp rfl (.d _)) .nil), ?_⟩
        have hu : conf best margin = 1000 := by unfold conf; split <;> omega
        rw [hu]; rfl
      · skip
        have h15 := f_dec h13
        refine a_skip ?_
        show A _ _ _ _ _ _ _
        refine a_rseq ?_
        refine rg_put (d := 18) (v := .d (.fl (.int .i64 (((600 + (2 * margin)) - best))))) rfl (og rfl (op_move rfl rfl rfl)) ?_
        refine rg_put (d := 4) (v := .d (.fl (.int .i64 (((600 + (2 * margin)) - best))))) rfl (og rfl (op_assign rfl rfl rfl)) ?_
        refine rg_done rfl ?_
        refine a_ret ?_
        show ∃ ds, ResL _ _ _ ds ∧ RV.of ds = _
        refine ⟨[.fl (.int .i64 (((600 + (2 * margin)) - best)))], (.cons (.tmp rfl (.d _)) .nil), ?_⟩
        have hu : conf best margin = ((600 + (2 * margin)) - best) := by unfold conf; split <;> omega
        rw [hu]; rfl
end Go.Proofs.Ytdhhpnkdokdjkaa.Wk
