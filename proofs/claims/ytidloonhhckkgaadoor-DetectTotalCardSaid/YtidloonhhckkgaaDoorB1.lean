/- Orders of numbers, strings, detections, both sides. Conditions: strings of at most 40 bytes. -/
import Derived.Test.YtidloonhhckkgaaDoorTy
set_option linter.unusedSimpArgs false
set_option linter.unusedVariables false
namespace Go.Proofs.YtidloonhhckkgaaDoor.Wk
open Go Go.RowKit Go.Proofs.YtidloonhhckkgaaDoor.Av
theorem ne_self_b (a : Int) : (a != a) = false := by simp
theorem sEq_eq {a b : ByteArray} (h : sEq a b = true) : a = b := of_decide_eq_true h
theorem sEq_of {a b : ByteArray} (h : a = b) : sEq a b = true := decide_eq_true h
theorem nb {b : Bool} (h : ¬ b = true) : b = false := by cases b <;> simp at h ⊢
theorem nnb {b : Bool} (h : ¬ (!b) = true) : b = true := by cases b <;> simp at h ⊢

theorem less_at : ∀ (x y : List UInt8) (k : Nat), k < x.length → k < y.length → (∀ q, q < k → x.getD q 0 = y.getD q 0) → x.getD k 0 ≠ y.getD k 0 → Op.bytesLess x y = decide (x.getD k 0 < y.getD k 0)
  | [], _, _, h, _, _, _ => by simp at h
  | _ :: _, [], _, _, h, _, _ => by simp at h
  | a :: x, b :: y, 0, _, _, _, h => by
    have h' : a ≠ b := by simpa using h
    simp [Op.bytesLess, h']
  | a :: x, b :: y, k + 1, h1, h2, h3, h4 => by
    have e : a = b := by simpa using h3 0 (by omega)
    subst e
    have ih := less_at x y k (by simpa using h1) (by simpa using h2) (fun q hq => by simpa using h3 (q + 1) (by omega)) (by simpa using h4)
    simp [Op.bytesLess, ih, UInt8.lt_irrefl]
theorem less_end : ∀ (x y : List UInt8), (∀ q, q < x.length → q < y.length → x.getD q 0 = y.getD q 0) → Op.bytesLess x y = decide (x.length < y.length)
  | [], [], _ => by simp [Op.bytesLess]
  | [], _ :: _, _ => by simp [Op.bytesLess]
  | _ :: _, [], _ => by simp [Op.bytesLess]
  | a :: x, b :: y, h => by
    have e : a = b := by simpa using h 0 (by simp) (by simp)
    subst e
    have ih := less_end x y (fun q h1 h2 => by simpa using h (q + 1) (by simpa using h1) (by simpa using h2))
    simp [Op.bytesLess, ih, UInt8.lt_irrefl]
theorem dlen (s : ByteArray) : s.data.toList.length = s.size := by simp
theorem bef_at {a b : ByteArray} {k : Nat} (h1 : k < a.size) (h2 : k < b.size) (hq : ∀ q, q < k → bt a q = bt b q) (h : bt a k ≠ bt b k) : sLt a b = decide (((bt a k).toNat : Int) < ((bt b k).toNat : Int)) := by
  unfold sLt
  rw [ByteArray.toList_eq, ByteArray.toList_eq, less_at a.data.toList b.data.toList k (by rw [dlen]; exact h1) (by rw [dlen]; exact h2) hq h]
  show decide (bt a k < bt b k) = _
  rw [decide_eq_decide, UInt8.lt_iff_toNat_lt]
  omega
theorem bef_end {a b : ByteArray} {k : Nat} (h : ¬ (k < a.size ∧ k < b.size)) (hq : ∀ q, q < k → bt a q = bt b q) : sLt a b = decide ((a.size : Int) < (b.size : Int)) := by
  unfold sLt
  rw [ByteArray.toList_eq, ByteArray.toList_eq, less_end a.data.toList b.data.toList (fun q h1 h2 => hq q (by rw [dlen] at h1 h2; omega)), dlen, dlen, decide_eq_decide]
  omega
theorem sLt_self (s : ByteArray) : sLt s s = false := by
  rw [bef_end (a := s) (b := s) (k := s.size) (by omega) (fun _ _ => rfl)]
  simp
theorem sLt_ne {s u : ByteArray} (h : sLt s u = true) : sEq s u = false := by
  cases he : sEq s u with
  | false => rfl
  | true => rw [of_decide_eq_true (show decide (s = u) = true from he), sLt_self] at h; cases h
def ic (a b : Int) : Int := bif decide (a < b) then -1 else bif decide (b < a) then 1 else 0
def sc (s u : ByteArray) : Int := bif sEq s u then 0 else bif sLt s u then -1 else 1
theorem sc_lt {s u : ByteArray} (h : sLt s u = true) : sc s u = -1 := by unfold sc; rw [sLt_ne h, h]; rfl
theorem sc_gt {s u : ByteArray} (h : sLt s u = false) (h2 : (sLt s u || sEq s u) = false) : sc s u = 1 := by
  rw [h, Bool.false_or] at h2
  unfold sc; rw [h2, h]; rfl
theorem sc_eq {s u : ByteArray} (h : sLt s u = false) (h2 : (sLt s u || sEq s u) = true) : sc s u = 0 := by
  rw [h, Bool.false_or] at h2
  unfold sc; rw [h2]; rfl
def fz : List Int → Int
  | [] => 0
  | x :: l => bif x != 0 then x else fz l
theorem fz_at : ∀ {l : List Int} {k : Nat}, k < l.length → (∀ q, q < k → ix l q = 0) → ix l k ≠ 0 → fz l = ix l k
  | [], _, h, _, _ => by simp at h
  | x :: l, 0, _, _, h => by
    have h' : x ≠ 0 := h
    show (bif x != 0 then x else fz l) = x
    rw [show (x != 0) = true by simpa using h']; rfl
  | x :: l, k + 1, h1, h2, h3 => by
    have h' : x = 0 := h2 0 (by omega)
    show (bif x != 0 then x else fz l) = ix l k
    rw [show (x != 0) = false by simpa using h', cond_false]
    exact fz_at (by simpa using h1) (fun q hq => h2 (q + 1) (by omega)) h3
theorem fz_no : ∀ {l : List Int}, (∀ q, q < l.length → ix l q = 0) → fz l = 0
  | [], _ => rfl
  | x :: l, h => by
    have h' : x = 0 := h 0 (by simp)
    show (bif x != 0 then x else fz l) = 0
    rw [show (x != 0) = false by simpa using h', cond_false]
    exact fz_no (fun q hq => h (q + 1) (by simpa using hq))
def cd (a b : De) : Int := fz [sc a.dev b.dev, ic a.seq b.seq, ic a.time b.time, sc a.tag b.tag, sc a.plate b.plate, ic a.axles b.axles, ic a.score b.score]
def cs (a b : Sn) : Int := fz [ic a.time b.time, sc a.point b.point, ic a.kind b.kind, ic a.lane b.lane, cd a.d b.d]
theorem cs_first {a b : Sn} (h : (ic a.time b.time != 0) = true) : cs a b = ic a.time b.time := by unfold cs fz; rw [h]; rfl
theorem cs_rest {a b : Sn} (h : (ic a.time b.time != 0) = false) : cs a b = fz [sc a.point b.point, ic a.kind b.kind, ic a.lane b.lane, cd a.d b.d] := by unfold cs; rw [fz, h]; rfl
def cj (a b : Rj) : Int := fz [cd a.d b.d, ic a.why b.why]
def sh (d : De) : Bool := (decide ((d.dev.size : Int) ≤ 40) && decide ((d.tag.size : Int) ≤ 40)) && decide ((d.plate.size : Int) ≤ 40)
theorem sh_t {d : De} (h : sh d = true) : d.dev.size ≤ 40 ∧ d.tag.size ≤ 40 ∧ d.plate.size ≤ 40 := by
  simp only [sh, Bool.and_eq_true, decide_eq_true_eq] at h
  omega

set_option maxHeartbeats 4000000 in
set_option maxRecDepth 100000 in
theorem nan34 (x : Int) : Ctr Tryd.prog 34 [.fl (.int .i64 x)] (.d (.fl (.bool (x != x)))) := by
  refine ctr (n := 6) (rs := #[.tmp 2]) (L := [(0, .d (.fl (.int .i64 x)))]) Tryd.func34 rfl rfl rfl rfl rfl (fun w0 U0 => ?_)
  refine a_rseq ?_
  refine rg_put (d := 2) (v := .d (.fl (.bool false))) rfl (og rfl (op_assign rfl rfl rfl)) ?_
  refine rg_done rfl ?_
  refine a_rseq ?_
  refine rg_put (d := 3) (v := .d (.fl (.int .i64 x))) rfl (og rfl (op_move rfl rfl rfl)) ?_
  refine rg_put (d := 4) (v := .d (.fl (.int .i64 x))) rfl (og rfl (op_move rfl rfl rfl)) ?_
  refine rg_put (d := 5) (v := .d (.fl (.bool (x != x)))) rfl (og rfl (op_bin rfl rfl rfl (b_neq _ _ _ _) rfl)) ?_
  refine rg_put (d := 2) (v := .d (.fl (.bool (x != x)))) rfl (og rfl (op_assign rfl rfl rfl)) ?_
  refine rg_done rfl ?_
  refine a_ret ?_
  show ∃ ds, ResL _ _ _ ds ∧ RV.of ds = _
  refine ⟨[.fl (.bool (x != x))], (.cons (.tmp rfl (.d _)) .nil), ?_⟩
  rfl
set_option maxHeartbeats 4000000 in
set_option maxRecDepth 100000 in
theorem nan35 (s : ByteArray) : Ctr Tryd.prog 35 [.fl (.string s)] (.d (.fl (.bool (!(sEq s s))))) := by
  refine ctr (n := 6) (rs := #[.tmp 2]) (L := [(0, .d (.fl (.string s)))]) Tryd.func35 rfl rfl rfl rfl rfl (fun w0 U0 => ?_)
  refine a_rseq ?_
  refine rg_put (d := 2) (v := .d (.fl (.bool false))) rfl (og rfl (op_assign rfl rfl rfl)) ?_
  refine rg_done rfl ?_
  refine a_rseq ?_
  refine rg_put (d := 3) (v := .d (.fl (.string s))) rfl (og rfl (op_move rfl rfl rfl)) ?_
  refine rg_put (d := 4) (v := .d (.fl (.string s))) rfl (og rfl (op_move rfl rfl rfl)) ?_
  refine rg_put (d := 5) (v := .d (.fl (.bool ((!(sEq s s)))))) rfl (og rfl (op_bin rfl rfl rfl (b_sne _ _ _) rfl)) ?_
  refine rg_put (d := 2) (v := .d (.fl (.bool ((!(sEq s s)))))) rfl (og rfl (op_assign rfl rfl rfl)) ?_
  refine rg_done rfl ?_
  refine a_ret ?_
  show ∃ ds, ResL _ _ _ ds ∧ RV.of ds = _
  refine ⟨[.fl (.bool ((!(sEq s s))))], (.cons (.tmp rfl (.d _)) .nil), ?_⟩
  rfl
set_option maxHeartbeats 4000000 in
set_option maxRecDepth 100000 in
theorem ic18 (x y : Int) : Ctr Tryd.prog 18 [.fl (.int .i64 x), .fl (.int .i64 y)] (.d (.fl (.int .i64 (ic x y)))) := by
  refine ctr (n := 20) (rs := #[.tmp 4]) (L := [(0, .d (.fl (.int .i64 x))), (1, .d (.fl (.int .i64 y)))]) Tryd.func18 rfl rfl rfl rfl rfl (fun w0 U0 => ?_)
  refine a_rseq ?_
  refine rg_put (d := 4) (v := .d (.fl (.int .i64 0))) rfl (og rfl (op_assign rfl rfl rfl)) ?_
  refine rg_done rfl ?_
  refine a_rseq ?_
  refine rg_put (d := 7) (v := .d (.fl (.int .i64 x))) rfl (og rfl (op_move rfl rfl rfl)) ?_
  refine rg_put (d := 8) (v := .d (.fl (.bool (x != x)))) rfl (og rfl (op_call rfl Tryd.func34 nm34 rfl (.cons rfl (.d _) .nil) (nan34 x) rfl)) ?_
  refine rg_put (d := 5) (v := .d (.fl (.bool (x != x)))) rfl (og rfl (op_assign rfl rfl rfl)) ?_
  refine rg_done rfl ?_
  refine a_rseq ?_
  refine rg_put (d := 9) (v := .d (.fl (.int .i64 y))) rfl (og rfl (op_move rfl rfl rfl)) ?_
  refine rg_put (d := 10) (v := .d (.fl (.bool (y != y)))) rfl (og rfl (op_call rfl Tryd.func34 nm34 rfl (.cons rfl (.d _) .nil) (nan34 y) rfl)) ?_
  refine rg_put (d := 6) (v := .d (.fl (.bool (y != y)))) rfl (og rfl (op_assign rfl rfl rfl)) ?_
  refine rg_done rfl ?_
  refine a_seq ?_
  refine a_rseq ?_
  refine rg_put (d := 11) (v := .d (.fl (.bool (x != x)))) rfl (og rfl (op_move rfl rfl rfl)) ?_
  refine rg_done rfl ?_
  refine a_condF rfl (ne_self_b _) ?_
  refine a_skip ?_
  show A _ _ _ _ _ _ _
  refine a_seq ?_
  refine a_rseq ?_
  refine rg_put (d := 13) (v := .d (.fl (.bool (y != y)))) rfl (og rfl (op_move rfl rfl rfl)) ?_
  refine rg_done rfl ?_
  refine a_condF rfl (ne_self_b _) ?_
  refine a_skip ?_
  show A _ _ _ _ _ _ _
  refine a_seq ?_
  refine a_rseq ?_
  refine rg_put (d := 14) (v := .d (.fl (.int .i64 x))) rfl (og rfl (op_move rfl rfl rfl)) ?_
  refine rg_put (d := 15) (v := .d (.fl (.int .i64 y))) rfl (og rfl (op_move rfl rfl rfl)) ?_
  refine rg_put (d := 16) (v := .d (.fl (.bool ((decide (x < y)))))) rfl (og rfl (op_bin rfl rfl rfl (b_lss _ _ _ _) rfl)) ?_
  refine rg_done rfl ?_
  refine a_cond rfl (fun h1 => ?_) (fun h1 => ?_)
  · skip
    have h2 := t_dec h1
    refine a_rseq ?_
    refine rg_put (d := 4) (v := .d (.fl (.int .i64 (-1)))) rfl (og rfl (op_assign rfl rfl rfl)) ?_
    refine rg_done rfl ?_
    refine a_ret ?_
    show ∃ ds, ResL _ _ _ ds ∧ RV.of ds = _
    refine ⟨[.fl (.int .i64 (-1))], (.cons (.tmp rfl (.d _)) .nil), ?_⟩
    first
      | (have hu : ic x y = (-1) := by
          unfold ic; simp only [h1, Bool.true_or, Bool.false_or, Bool.or_true, Bool.or_false, Bool.not_true, Bool.not_false, cond_true, cond_false, Bool.true_and, Bool.false_and, Bool.and_true, Bool.and_false] <;> rfl
         rw [hu]; rfl)
      | (exfalso; omega)
  · skip
    have h3 := f_dec h1
    refine a_skip ?_
    show A _ _ _ _ _ _ _
    refine a_seq ?_
    refine a_rseq ?_
    refine rg_put (d := 17) (v := .d (.fl (.int .i64 x))) rfl (og rfl (op_move rfl rfl rfl)) ?_
    refine rg_put (d := 18) (v := .d (.fl (.int .i64 y))) rfl (og rfl (op_move rfl rfl rfl)) ?_
    refine rg_put (d := 19) (v := .d (.fl (.bool ((decide (y < x)))))) rfl (og rfl (op_bin rfl rfl rfl (b_gtr _ _ _ _) rfl)) ?_
    refine rg_done rfl ?_
    refine a_cond rfl (fun h4 => ?_) (fun h4 => ?_)
    · skip
      have h5 := t_dec h4
      refine a_rseq ?_
      refine rg_put (d := 4) (v := .d (.fl (.int .i64 1))) rfl (og rfl (op_assign rfl rfl rfl)) ?_
      refine rg_done rfl ?_
      refine a_ret ?_
      show ∃ ds, ResL _ _ _ ds ∧ RV.of ds = _
      refine ⟨[.fl (.int .i64 1)], (.cons (.tmp rfl (.d _)) .nil), ?_⟩
      first
        | (have hu : ic x y = 1 := by
            unfold ic; simp only [h1, h4, Bool.true_or, Bool.false_or, Bool.or_true, Bool.or_false, Bool.not_true, Bool.not_false, cond_true, cond_false, Bool.true_and, Bool.false_and, Bool.and_true, Bool.and_false] <;> rfl
           rw [hu]; rfl)
        | (exfalso; omega)
    · skip
      have h6 := f_dec h4
      refine a_skip ?_
      show A _ _ _ _ _ _ _
      refine a_rseq ?_
      refine rg_put (d := 4) (v := .d (.fl (.int .i64 0))) rfl (og rfl (op_assign rfl rfl rfl)) ?_
      refine rg_done rfl ?_
      refine a_ret ?_
      show ∃ ds, ResL _ _ _ ds ∧ RV.of ds = _
      refine ⟨[.fl (.int .i64 0)], (.cons (.tmp rfl (.d _)) .nil), ?_⟩
      first
        | (have hu : ic x y = 0 := by
            unfold ic; simp only [h1, h4, Bool.true_or, Bool.false_or, Bool.or_true, Bool.or_false, Bool.not_true, Bool.not_false, cond_true, cond_false, Bool.true_and, Bool.false_and, Bool.and_true, Bool.and_false] <;> rfl
           rw [hu]; rfl)
        | (exfalso; omega)
set_option maxHeartbeats 4000000 in
set_option maxRecDepth 100000 in
theorem ic23 (x y : Int) : Ctr Tryd.prog 23 [.fl (.int .i64 x), .fl (.int .i64 y)] (.d (.fl (.int .i64 (ic x y)))) := by
  refine ctr (n := 11) (rs := #[.tmp 4]) (L := [(0, .d (.fl (.int .i64 x))), (1, .d (.fl (.int .i64 y)))]) Tryd.func23 rfl rfl rfl rfl rfl (fun w0 U0 => ?_)
  refine a_rseq ?_
  refine rg_put (d := 4) (v := .d (.fl (.int .i64 0))) rfl (og rfl (op_assign rfl rfl rfl)) ?_
  refine rg_done rfl ?_
  refine a_seq ?_
  refine a_rseq ?_
  refine rg_put (d := 5) (v := .d (.fl (.int .i64 x))) rfl (og rfl (op_move rfl rfl rfl)) ?_
  refine rg_put (d := 6) (v := .d (.fl (.int .i64 y))) rfl (og rfl (op_move rfl rfl rfl)) ?_
  refine rg_put (d := 7) (v := .d (.fl (.bool ((decide (x < y)))))) rfl (og rfl (op_bin rfl rfl rfl (b_lss _ _ _ _) rfl)) ?_
  refine rg_done rfl ?_
  refine a_cond rfl (fun h1 => ?_) (fun h1 => ?_)
  · skip
    have h2 := t_dec h1
    refine a_rseq ?_
    refine rg_put (d := 4) (v := .d (.fl (.int .i64 (-1)))) rfl (og rfl (op_assign rfl rfl rfl)) ?_
    refine rg_done rfl ?_
    refine a_ret ?_
    show ∃ ds, ResL _ _ _ ds ∧ RV.of ds = _
    refine ⟨[.fl (.int .i64 (-1))], (.cons (.tmp rfl (.d _)) .nil), ?_⟩
    first
      | (have hu : ic x y = (-1) := by
          unfold ic; simp only [h1, Bool.true_or, Bool.false_or, Bool.or_true, Bool.or_false, Bool.not_true, Bool.not_false, cond_true, cond_false, Bool.true_and, Bool.false_and, Bool.and_true, Bool.and_false] <;> rfl
         rw [hu]; rfl)
      | (exfalso; omega)
  · skip
    have h3 := f_dec h1
    refine a_skip ?_
    show A _ _ _ _ _ _ _
    refine a_seq ?_
    refine a_rseq ?_
    refine rg_put (d := 8) (v := .d (.fl (.int .i64 x))) rfl (og rfl (op_move rfl rfl rfl)) ?_
    refine rg_put (d := 9) (v := .d (.fl (.int .i64 y))) rfl (og rfl (op_move rfl rfl rfl)) ?_
    refine rg_put (d := 10) (v := .d (.fl (.bool ((decide (y < x)))))) rfl (og rfl (op_bin rfl rfl rfl (b_gtr _ _ _ _) rfl)) ?_
    refine rg_done rfl ?_
    refine a_cond rfl (fun h4 => ?_) (fun h4 => ?_)
    · skip
      have h5 := t_dec h4
      refine a_rseq ?_
      refine rg_put (d := 4) (v := .d (.fl (.int .i64 1))) rfl (og rfl (op_assign rfl rfl rfl)) ?_
      refine rg_done rfl ?_
      refine a_ret ?_
      show ∃ ds, ResL _ _ _ ds ∧ RV.of ds = _
      refine ⟨[.fl (.int .i64 1)], (.cons (.tmp rfl (.d _)) .nil), ?_⟩
      first
        | (have hu : ic x y = 1 := by
            unfold ic; simp only [h1, h4, Bool.true_or, Bool.false_or, Bool.or_true, Bool.or_false, Bool.not_true, Bool.not_false, cond_true, cond_false, Bool.true_and, Bool.false_and, Bool.and_true, Bool.and_false] <;> rfl
           rw [hu]; rfl)
        | (exfalso; omega)
    · skip
      have h6 := f_dec h4
      refine a_skip ?_
      show A _ _ _ _ _ _ _
      refine a_rseq ?_
      refine rg_put (d := 4) (v := .d (.fl (.int .i64 0))) rfl (og rfl (op_assign rfl rfl rfl)) ?_
      refine rg_done rfl ?_
      refine a_ret ?_
      show ∃ ds, ResL _ _ _ ds ∧ RV.of ds = _
      refine ⟨[.fl (.int .i64 0)], (.cons (.tmp rfl (.d _)) .nil), ?_⟩
      first
        | (have hu : ic x y = 0 := by
            unfold ic; simp only [h1, h4, Bool.true_or, Bool.false_or, Bool.or_true, Bool.or_false, Bool.not_true, Bool.not_false, cond_true, cond_false, Bool.true_and, Bool.false_and, Bool.and_true, Bool.and_false] <;> rfl
           rw [hu]; rfl)
        | (exfalso; omega)
set_option maxHeartbeats 4000000 in
set_option maxRecDepth 100000 in
theorem sc20 (s u : ByteArray) : Ctr Tryd.prog 20 [.fl (.string s), .fl (.string u)] (.d (.fl (.int .i64 (sc s u)))) := by
  refine ctr (n := 20) (rs := #[.tmp 4]) (L := [(0, .d (.fl (.string s))), (1, .d (.fl (.string u)))]) Tryd.func20 rfl rfl rfl rfl rfl (fun w0 U0 => ?_)
  refine a_rseq ?_
  refine rg_put (d := 4) (v := .d (.fl (.int .i64 0))) rfl (og rfl (op_assign rfl rfl rfl)) ?_
  refine rg_done rfl ?_
  refine a_rseq ?_
  refine rg_put (d := 7) (v := .d (.fl (.string s))) rfl (og rfl (op_move rfl rfl rfl)) ?_
  refine rg_put (d := 8) (v := .d (.fl (.bool ((!(sEq s s)))))) rfl (og rfl (op_call rfl Tryd.func35 nm35 rfl (.cons rfl (.d _) .nil) (nan35 s) rfl)) ?_
  refine rg_put (d := 5) (v := .d (.fl (.bool ((!(sEq s s)))))) rfl (og rfl (op_assign rfl rfl rfl)) ?_
  refine rg_done rfl ?_
  refine a_rseq ?_
  refine rg_put (d := 9) (v := .d (.fl (.string u))) rfl (og rfl (op_move rfl rfl rfl)) ?_
  refine rg_put (d := 10) (v := .d (.fl (.bool ((!(sEq u u)))))) rfl (og rfl (op_call rfl Tryd.func35 nm35 rfl (.cons rfl (.d _) .nil) (nan35 u) rfl)) ?_
  refine rg_put (d := 6) (v := .d (.fl (.bool ((!(sEq u u)))))) rfl (og rfl (op_assign rfl rfl rfl)) ?_
  refine rg_done rfl ?_
  refine a_seq ?_
  refine a_rseq ?_
  refine rg_put (d := 11) (v := .d (.fl (.bool ((!(sEq s s)))))) rfl (og rfl (op_move rfl rfl rfl)) ?_
  refine rg_done rfl ?_
  refine a_condF rfl (not_f (eq_self_s _)) ?_
  refine a_skip ?_
  show A _ _ _ _ _ _ _
  refine a_seq ?_
  refine a_rseq ?_
  refine rg_put (d := 13) (v := .d (.fl (.bool ((!(sEq u u)))))) rfl (og rfl (op_move rfl rfl rfl)) ?_
  refine rg_done rfl ?_
  refine a_condF rfl (not_f (eq_self_s _)) ?_
  refine a_skip ?_
  show A _ _ _ _ _ _ _
  refine a_seq ?_
  refine a_rseq ?_
  refine rg_put (d := 14) (v := .d (.fl (.string s))) rfl (og rfl (op_move rfl rfl rfl)) ?_
  refine rg_put (d := 15) (v := .d (.fl (.string u))) rfl (og rfl (op_move rfl rfl rfl)) ?_
  refine rg_put (d := 16) (v := .d (.fl (.bool (sLt s u)))) rfl (og rfl (op_bin rfl rfl rfl (b_slt _ _ _) rfl)) ?_
  refine rg_done rfl ?_
  refine a_cond rfl (fun h1 => ?_) (fun h1 => ?_)
  · skip
    refine a_rseq ?_
    refine rg_put (d := 4) (v := .d (.fl (.int .i64 (-1)))) rfl (og rfl (op_assign rfl rfl rfl)) ?_
    refine rg_done rfl ?_
    refine a_ret ?_
    show ∃ ds, ResL _ _ _ ds ∧ RV.of ds = _
    refine ⟨[.fl (.int .i64 (-1))], (.cons (.tmp rfl (.d _)) .nil), ?_⟩
    rw [sc_lt h1]; rfl
  · skip
    refine a_skip ?_
    show A _ _ _ _ _ _ _
    refine a_seq ?_
    refine a_rseq ?_
    refine rg_put (d := 17) (v := .d (.fl (.string s))) rfl (og rfl (op_move rfl rfl rfl)) ?_
    refine rg_put (d := 18) (v := .d (.fl (.string u))) rfl (og rfl (op_move rfl rfl rfl)) ?_
    refine rg_put (d := 19) (v := .d (.fl (.bool ((!(sLt s u || sEq s u)))))) rfl (og rfl (op_bin rfl rfl rfl (b_sgt _ _ _) rfl)) ?_
    refine rg_done rfl ?_
    refine a_cond rfl (fun h2 => ?_) (fun h2 => ?_)
    · skip
      have h3 := t_not h2
      refine a_rseq ?_
      refine rg_put (d := 4) (v := .d (.fl (.int .i64 1))) rfl (og rfl (op_assign rfl rfl rfl)) ?_
      refine rg_done rfl ?_
      refine a_ret ?_
      show ∃ ds, ResL _ _ _ ds ∧ RV.of ds = _
      refine ⟨[.fl (.int .i64 1)], (.cons (.tmp rfl (.d _)) .nil), ?_⟩
      rw [sc_gt h1 h3]; rfl
    · skip
      have h4 := f_not h2
      refine a_skip ?_
      show A _ _ _ _ _ _ _
      refine a_rseq ?_
      refine rg_put (d := 4) (v := .d (.fl (.int .i64 0))) rfl (og rfl (op_assign rfl rfl rfl)) ?_
      refine rg_done rfl ?_
      refine a_ret ?_
      show ∃ ds, ResL _ _ _ ds ∧ RV.of ds = _
      refine ⟨[.fl (.int .i64 0)], (.cons (.tmp rfl (.d _)) .nil), ?_⟩
      rw [sc_eq h1 h4]; rfl
set_option maxHeartbeats 4000000 in
set_option maxRecDepth 100000 in
theorem bef36 (s u : ByteArray) (hs : s.size ≤ 40) (hz : u.size ≤ 40) : Ctr Tryd.prog 36 [.fl (.string s), .fl (.string u)] (.d (.fl (.bool (sLt s u)))) := by
  refine ctr (n := 37) (rs := #[.tmp 4]) (L := [(0, .d (.fl (.string s))), (1, .d (.fl (.string u)))]) Tryd.func36 rfl rfl rfl rfl rfl (fun w0 U0 => ?_)
  refine a_rseq ?_
  refine rg_put (d := 4) (v := .d (.fl (.bool false))) rfl (og rfl (op_assign rfl rfl rfl)) ?_
  refine rg_done rfl ?_
  refine a_seq ?_
  refine a_rseq ?_
  refine rg_put (d := 5) (v := .d (.fl (.int .i64 0))) rfl (og rfl (op_assign rfl rfl rfl)) ?_
  refine rg_done rfl ?_
  refine a_block ?_
  refine a_loop (ι := Nat) (fun k => SS [(0, .d (.fl (.string s))), (1, .d (.fl (.string u))), (5, .d (.fl (.int .i64 (k : Int))))] []) (fun k => k ≤ s.size ∧ k ≤ u.size ∧ ∀ q, q < k → bt s q = bt u q) (fun k => s.size - k) 0 (⟨by omega, by omega, fun q h => by omega⟩) (imp_forget rfl ⟨rfl, rfl, (by first | rfl | exact ci (by omega) | exact ci (by simp) | exact cd (by simp) | simp), trivial⟩ trivial) (fun k hok => ?_)
  obtain ⟨hk, hk2, hq⟩ := hok
  refine a_seq ?_
  refine a_rseq ?_
  refine rg_put (d := 6) (v := .d (.fl (.int .i64 (k : Int)))) rfl (og rfl (op_move rfl rfl rfl)) ?_
  refine rg_put (d := 7) (v := .d (.fl (.string s))) rfl (og rfl (op_move rfl rfl rfl)) ?_
  refine rg_put (d := 8) (v := .d (.fl (.int .i64 (s.size : Int)))) rfl (og rfl (op_len_str rfl Tryd.underlying9 rfl rfl)) ?_
  refine rg_put (d := 9) (v := .d (.fl (.bool ((decide ((k : Int) < (s.size : Int))))))) rfl (og rfl (op_bin rfl rfl rfl (b_lss _ _ _ _) rfl)) ?_
  refine rg_put (d := 10) (v := .d (.fl (.bool ((decide ((k : Int) < (s.size : Int))))))) rfl (og rfl (op_move rfl rfl rfl)) ?_
  rcases fot ((decide ((k : Int) < (s.size : Int)))) with h1 | h1
  · skip
    have h2 := f_dec h1
    refine rg_put (d := 11) (v := .d (.fl undef)) rfl (on rfl rfl rfl h1) ?_
    refine rg_put (d := 12) (v := .d (.fl undef)) rfl (on rfl rfl rfl h1) ?_
    refine rg_put (d := 13) (v := .d (.fl undef)) rfl (on rfl rfl rfl h1) ?_
    refine rg_put (d := 14) (v := .d (.fl undef)) rfl (on rfl rfl rfl h1) ?_
    refine rg_put (d := 15) (v := .d (.fl (.bool false))) rfl (og rfl (op_pick rfl rfl (by rw [h1]; rfl) rfl)) ?_
    refine rg_done rfl ?_
    refine a_condF rfl rfl ?_
    refine a_exit ?_
    show A _ _ _ _ _ _ _
    refine a_rseq ?_
    refine rg_put (d := 32) (v := .d (.fl (.string s))) rfl (og rfl (op_move rfl rfl rfl)) ?_
    refine rg_put (d := 33) (v := .d (.fl (.int .i64 (s.size : Int)))) rfl (og rfl (op_len_str rfl Tryd.underlying9 rfl rfl)) ?_
    refine rg_put (d := 34) (v := .d (.fl (.string u))) rfl (og rfl (op_move rfl rfl rfl)) ?_
    refine rg_put (d := 35) (v := .d (.fl (.int .i64 (u.size : Int)))) rfl (og rfl (op_len_str rfl Tryd.underlying9 rfl rfl)) ?_
    refine rg_put (d := 36) (v := .d (.fl (.bool ((decide ((s.size : Int) < (u.size : Int))))))) rfl (og rfl (op_bin rfl rfl rfl (b_lss _ _ _ _) rfl)) ?_
    refine rg_put (d := 4) (v := .d (.fl (.bool ((decide ((s.size : Int) < (u.size : Int))))))) rfl (og rfl (op_assign rfl rfl rfl)) ?_
    refine rg_done rfl ?_
    refine a_ret ?_
    show ∃ ds, ResL _ _ _ ds ∧ RV.of ds = _
    refine ⟨[.fl (.bool ((decide ((s.size : Int) < (u.size : Int)))))], (.cons (.tmp rfl (.d _)) .nil), ?_⟩
    rw [bef_end (k := k) (by omega) hq]; rfl
  · skip
    have h3 := t_dec h1
    refine rg_put (d := 11) (v := .d (.fl (.int .i64 (k : Int)))) rfl (oy rfl rfl rfl h1 (op_move rfl rfl rfl)) ?_
    refine rg_put (d := 12) (v := .d (.fl (.string u))) rfl (oy rfl rfl rfl h1 (op_move rfl rfl rfl)) ?_
    refine rg_put (d := 13) (v := .d (.fl (.int .i64 (u.size : Int)))) rfl (oy rfl rfl rfl h1 (op_len_str rfl Tryd.underlying9 rfl rfl)) ?_
    refine rg_put (d := 14) (v := .d (.fl (.bool ((decide ((k : Int) < (u.size : Int))))))) rfl (oy rfl rfl rfl h1 (op_bin rfl rfl rfl (b_lss _ _ _ _) rfl)) ?_
    refine rg_put (d := 15) (v := .d (.fl (.bool ((decide ((k : Int) < (u.size : Int))))))) rfl (og rfl (op_pick rfl rfl (by rw [h1]; rfl) rfl)) ?_
    refine rg_done rfl ?_
    refine a_cond rfl (fun h4 => ?_) (fun h4 => ?_)
    · skip
      have h5 := t_dec h4
      refine a_skip ?_
      show A _ _ _ _ _ _ _
      refine a_seq ?_
      refine a_block ?_
      refine a_dseq (by kernel_rfl) ?_
      refine dr_put (d := 18) (v := .d (.fl (.string s))) rfl (og rfl (op_move rfl rfl rfl)) ?_
      refine dr_put (d := 19) (v := .d (.fl (.int .i64 (k : Int)))) rfl (og rfl (op_move rfl rfl rfl)) ?_
      refine dr_put (d := 20) (v := .d (.fl (.int .u8 (((bt s k).toNat : Int))))) rfl (og rfl (op_strindex rfl Tryd.underlying9 rfl rfl (by omega) (byte_ix (by omega)) rfl)) ?_
      refine dr_put (d := 21) (v := .d (.fl (.string u))) rfl (og rfl (op_move rfl rfl rfl)) ?_
      refine dr_put (d := 22) (v := .d (.fl (.int .i64 (k : Int)))) rfl (og rfl (op_move rfl rfl rfl)) ?_
      refine dr_put (d := 23) (v := .d (.fl (.int .u8 (((bt u k).toNat : Int))))) rfl (og rfl (op_strindex rfl Tryd.underlying9 rfl rfl (by omega) (byte_ix (by omega)) rfl)) ?_
      refine dr_put (d := 24) (v := .d (.fl (.bool ((((bt s k).toNat : Int) != ((bt u k).toNat : Int)))))) rfl (og rfl (op_bin rfl rfl rfl (b_neq _ _ _ _) rfl)) ?_
      refine dr_done rfl (by kernel_rfl) (by kernel_rfl) ?_
      refine a_cond rfl (fun h6 => ?_) (fun h6 => ?_)
      · skip
        have h7 := t_bne h6
        refine a_dseq (by kernel_rfl) ?_
        refine dr_put (d := 25) (v := .d (.fl (.string s))) rfl (og rfl (op_move rfl rfl rfl)) ?_
        refine dr_put (d := 26) (v := .d (.fl (.int .i64 (k : Int)))) rfl (og rfl (op_move rfl rfl rfl)) ?_
        refine dr_put (d := 27) (v := .d (.fl (.int .u8 (((bt s k).toNat : Int))))) rfl (og rfl (op_strindex rfl Tryd.underlying9 rfl rfl (by omega) (byte_ix (by omega)) rfl)) ?_
        refine dr_put (d := 28) (v := .d (.fl (.string u))) rfl (og rfl (op_move rfl rfl rfl)) ?_
        refine dr_put (d := 29) (v := .d (.fl (.int .i64 (k : Int)))) rfl (og rfl (op_move rfl rfl rfl)) ?_
        refine dr_put (d := 30) (v := .d (.fl (.int .u8 (((bt u k).toNat : Int))))) rfl (og rfl (op_strindex rfl Tryd.underlying9 rfl rfl (by omega) (byte_ix (by omega)) rfl)) ?_
        refine dr_put (d := 31) (v := .d (.fl (.bool ((decide (((bt s k).toNat : Int) < ((bt u k).toNat : Int))))))) rfl (og rfl (op_bin rfl rfl rfl (b_lss _ _ _ _) rfl)) ?_
        refine dr_put (d := 4) (v := .d (.fl (.bool ((decide (((bt s k).toNat : Int) < ((bt u k).toNat : Int))))))) rfl (og rfl (op_assign rfl rfl rfl)) ?_
        refine dr_done rfl (by kernel_rfl) (by kernel_rfl) ?_
        refine a_ret ?_
        show ∃ ds, ResL _ _ _ ds ∧ RV.of ds = _
        refine ⟨[.fl (.bool ((decide (((bt s k).toNat : Int) < ((bt u k).toNat : Int)))))], (.cons (.tmp rfl (.d _)) .nil), ?_⟩
        have hne : bt s k ≠ bt u k := fun e => by have := t_bne h6; rw [e] at this; exact this rfl
        rw [bef_at (by omega) (by omega) hq hne]; rfl
      · skip
        have h8 := f_bne h6
        refine a_skip ?_
        show A _ _ _ _ _ _ _
        refine a_region ?_
        refine rg_put (d := 16) (v := .d (.fl (.int .i64 (k : Int)))) rfl (og rfl (op_move rfl rfl rfl)) ?_
        refine rg_put (d := 17) (v := .d (.fl (.int .i64 (((k : Int) + 1))))) rfl (og rfl (op_bin rfl rfl rfl (fun x y w => b_add64 _ _ _ x y w (by omega)) rfl)) ?_
        refine rg_put (d := 5) (v := .d (.fl (.int .i64 (((k : Int) + 1))))) rfl (og rfl (op_assign rfl rfl rfl)) ?_
        refine rg_done rfl ?_
        have hx : bt s k = bt u k := UInt8.toNat_inj.1 (by have := f_bne h6; omega)
        show ∃ i, _ ∧ _ ∧ Imp _ _ _ _ _
        refine ⟨k + 1, ⟨by omega, by omega, fun q h => (Nat.lt_succ_iff_lt_or_eq.1 h).elim (hq q) (fun e => by rw [e]; exact hx)⟩, by omega, imp_forget rfl ⟨rfl, rfl, (by first | rfl | exact ci (by omega) | exact ci (by simp) | exact cd (by simp) | simp), trivial⟩ trivial⟩
    · skip
      have h9 := f_dec h4
      refine a_exit ?_
      show A _ _ _ _ _ _ _
      refine a_rseq ?_
      refine rg_put (d := 32) (v := .d (.fl (.string s))) rfl (og rfl (op_move rfl rfl rfl)) ?_
      refine rg_put (d := 33) (v := .d (.fl (.int .i64 (s.size : Int)))) rfl (og rfl (op_len_str rfl Tryd.underlying9 rfl rfl)) ?_
      refine rg_put (d := 34) (v := .d (.fl (.string u))) rfl (og rfl (op_move rfl rfl rfl)) ?_
      refine rg_put (d := 35) (v := .d (.fl (.int .i64 (u.size : Int)))) rfl (og rfl (op_len_str rfl Tryd.underlying9 rfl rfl)) ?_
      refine rg_put (d := 36) (v := .d (.fl (.bool ((decide ((s.size : Int) < (u.size : Int))))))) rfl (og rfl (op_bin rfl rfl rfl (b_lss _ _ _ _) rfl)) ?_
      refine rg_put (d := 4) (v := .d (.fl (.bool ((decide ((s.size : Int) < (u.size : Int))))))) rfl (og rfl (op_assign rfl rfl rfl)) ?_
      refine rg_done rfl ?_
      refine a_ret ?_
      show ∃ ds, ResL _ _ _ ds ∧ RV.of ds = _
      refine ⟨[.fl (.bool ((decide ((s.size : Int) < (u.size : Int)))))], (.cons (.tmp rfl (.d _)) .nil), ?_⟩
      rw [bef_end (k := k) (by omega) hq]; rfl
set_option maxHeartbeats 4000000 in
set_option maxRecDepth 100000 in
theorem sc24 (s u : ByteArray) (hs : s.size ≤ 40) (hz : u.size ≤ 40) : Ctr Tryd.prog 24 [.fl (.string s), .fl (.string u)] (.d (.fl (.int .i64 (sc s u)))) := by
  refine ctr (n := 11) (rs := #[.tmp 4]) (L := [(0, .d (.fl (.string s))), (1, .d (.fl (.string u)))]) Tryd.func24 rfl rfl rfl rfl rfl (fun w0 U0 => ?_)
  refine a_rseq ?_
  refine rg_put (d := 4) (v := .d (.fl (.int .i64 0))) rfl (og rfl (op_assign rfl rfl rfl)) ?_
  refine rg_done rfl ?_
  refine a_seq ?_
  refine a_rseq ?_
  refine rg_put (d := 5) (v := .d (.fl (.string s))) rfl (og rfl (op_move rfl rfl rfl)) ?_
  refine rg_put (d := 6) (v := .d (.fl (.string u))) rfl (og rfl (op_move rfl rfl rfl)) ?_
  refine rg_put (d := 7) (v := .d (.fl (.bool (sEq s u)))) rfl (og rfl (op_bin rfl rfl rfl (b_seq _ _ _) rfl)) ?_
  refine rg_done rfl ?_
  refine a_cond rfl (fun h1 => ?_) (fun h1 => ?_)
  · skip
    refine a_rseq ?_
    refine rg_put (d := 4) (v := .d (.fl (.int .i64 0))) rfl (og rfl (op_assign rfl rfl rfl)) ?_
    refine rg_done rfl ?_
    refine a_ret ?_
    show ∃ ds, ResL _ _ _ ds ∧ RV.of ds = _
    refine ⟨[.fl (.int .i64 0)], (.cons (.tmp rfl (.d _)) .nil), ?_⟩
    first
      | (have hu : sc s u = 0 := by
          unfold sc; simp only [h1, Bool.true_or, Bool.false_or, Bool.or_true, Bool.or_false, Bool.not_true, Bool.not_false, cond_true, cond_false, Bool.true_and, Bool.false_and, Bool.and_true, Bool.and_false] <;> rfl
         rw [hu]; rfl)
      | (exfalso; omega)
  · skip
    refine a_skip ?_
    show A _ _ _ _ _ _ _
    refine a_seq ?_
    refine a_rseq ?_
    refine rg_put (d := 8) (v := .d (.fl (.string s))) rfl (og rfl (op_move rfl rfl rfl)) ?_
    refine rg_put (d := 9) (v := .d (.fl (.string u))) rfl (og rfl (op_move rfl rfl rfl)) ?_
    refine rg_put (d := 10) (v := .d (.fl (.bool (sLt s u)))) rfl (og rfl (op_call rfl Tryd.func36 nm36 rfl (.cons rfl (.d _) (.cons rfl (.d _) .nil)) (bef36 s u (by omega) (by omega)) rfl)) ?_
    refine rg_done rfl ?_
    refine a_cond rfl (fun h2 => ?_) (fun h2 => ?_)
    · skip
      refine a_rseq ?_
      refine rg_put (d := 4) (v := .d (.fl (.int .i64 (-1)))) rfl (og rfl (op_assign rfl rfl rfl)) ?_
      refine rg_done rfl ?_
      refine a_ret ?_
      show ∃ ds, ResL _ _ _ ds ∧ RV.of ds = _
      refine ⟨[.fl (.int .i64 (-1))], (.cons (.tmp rfl (.d _)) .nil), ?_⟩
      first
        | (have hu : sc s u = (-1) := by
            unfold sc; simp only [h1, h2, Bool.true_or, Bool.false_or, Bool.or_true, Bool.or_false, Bool.not_true, Bool.not_false, cond_true, cond_false, Bool.true_and, Bool.false_and, Bool.and_true, Bool.and_false] <;> rfl
           rw [hu]; rfl)
        | (exfalso; omega)
    · skip
      refine a_skip ?_
      show A _ _ _ _ _ _ _
      refine a_rseq ?_
      refine rg_put (d := 4) (v := .d (.fl (.int .i64 1))) rfl (og rfl (op_assign rfl rfl rfl)) ?_
      refine rg_done rfl ?_
      refine a_ret ?_
      show ∃ ds, ResL _ _ _ ds ∧ RV.of ds = _
      refine ⟨[.fl (.int .i64 1)], (.cons (.tmp rfl (.d _)) .nil), ?_⟩
      first
        | (have hu : sc s u = 1 := by
            unfold sc; simp only [h1, h2, Bool.true_or, Bool.false_or, Bool.or_true, Bool.or_false, Bool.not_true, Bool.not_false, cond_true, cond_false, Bool.true_and, Bool.false_and, Bool.and_true, Bool.and_false] <;> rfl
           rw [hu]; rfl)
        | (exfalso; omega)
set_option maxHeartbeats 4000000 in
set_option maxRecDepth 100000 in
theorem fz19 (l : List Int) (hl : l.length ≤ 10) : Ctr Tryd.prog 19 [.sl 1 (List.map (rI .i64) l)] (.d (.fl (.int .i64 (fz l)))) := by
  refine ctr (n := 18) (rs := #[.tmp 2]) (L := [(0, .d (.sl 1 (List.map (rI .i64) l)))]) Tryd.func19 rfl rfl rfl rfl rfl (fun w0 U0 => ?_)
  refine a_rseq ?_
  refine rg_put (d := 2) (v := .d (.fl (.int .i64 0))) rfl (og rfl (op_assign rfl rfl rfl)) ?_
  refine rg_done rfl ?_
  refine a_rseq ?_
  refine rg_put (d := 3) (v := .d (.fl (.int .i64 0))) rfl (og rfl (op_assign rfl rfl rfl)) ?_
  refine rg_done rfl ?_
  refine a_seq ?_
  refine a_rseq ?_
  refine rg_put (d := 6) (v := .d (.sl 1 (List.map (rI .i64) l))) rfl (og rfl (op_move rfl rfl rfl)) ?_
  refine rg_put (d := 7) (v := .d (.fl (.int .i64 (l.length : Int)))) rfl (og rfl (s_len rfl Tryd.underlying55 rfl rfl)) ?_
  refine rg_put (d := 8) (v := .d (.fl (.int .i64 0))) rfl (og rfl (op_move rfl rfl rfl)) ?_
  refine rg_done rfl ?_
  refine a_block ?_
  refine a_loop (ι := Nat) (fun k => SS [(0, .d (.sl 1 (List.map (rI .i64) l))), (3, .d (.fl (.int .i64 0))), (6, .d (.sl 1 (List.map (rI .i64) l))), (7, .d (.fl (.int .i64 (l.length : Int)))), (8, .d (.fl (.int .i64 (k : Int))))] []) (fun k => k ≤ l.length ∧ ∀ q, q < k → ix l q = 0) (fun k => l.length - k) 0 (⟨by omega, fun q h => by omega⟩) (imp_forget rfl ⟨rfl, rfl, rfl, rfl, (by first | rfl | exact ci (by omega) | exact ci (by simp) | exact cd (by simp) | simp), trivial⟩ trivial) (fun k hok => ?_)
  obtain ⟨hk, hq⟩ := hok
  refine a_rseq ?_
  refine rg_put (d := 9) (v := .d (.fl (.bool ((decide ((k : Int) < (l.length : Int))))))) rfl (og rfl (op_bin rfl rfl rfl (b_lss _ _ _ _) rfl)) ?_
  refine rg_done rfl ?_
  refine a_seq ?_
  refine a_cond rfl (fun h1 => ?_) (fun h1 => ?_)
  · skip
    have h2 := t_dec h1
    refine a_skip ?_
    show A _ _ _ _ _ _ _
    refine a_seq ?_
    refine a_block ?_
    refine a_rseq ?_
    refine rg_put (d := 10) (v := .el ((rI .i64 (ix l k)))) rfl (og rfl (s_index rfl Tryd.underlying55 ti3 rfl rfl (by omega) (row_at (by omega)) rfl)) ?_
    refine rg_put (d := 11) (v := .d (.fl (.int .i64 (ix l k)))) rfl (og rfl (op_load_el rfl Tryd.underlying3 rfl rfl rfl rfl)) ?_
    refine rg_put (d := 5) (v := .d (.fl (.int .i64 (ix l k)))) rfl (og rfl (op_assign rfl rfl rfl)) ?_
    refine rg_done rfl ?_
    refine a_rseq ?_
    refine rg_put (d := 12) (v := .d (.fl (.int .i64 (ix l k)))) rfl (og rfl (op_move rfl rfl rfl)) ?_
    refine rg_put (d := 13) (v := .d (.fl (.int .i64 0))) rfl (og rfl (op_move rfl rfl rfl)) ?_
    refine rg_put (d := 14) (v := .d (.fl (.bool (((ix l k) != 0))))) rfl (og rfl (op_bin rfl rfl rfl (b_neq _ _ _ _) rfl)) ?_
    refine rg_done rfl ?_
    refine a_cond rfl (fun h3 => ?_) (fun h3 => ?_)
    · skip
      have h4 := t_bne h3
      refine a_rseq ?_
      refine rg_put (d := 15) (v := .d (.fl (.int .i64 (ix l k)))) rfl (og rfl (op_move rfl rfl rfl)) ?_
      refine rg_put (d := 2) (v := .d (.fl (.int .i64 (ix l k)))) rfl (og rfl (op_assign rfl rfl rfl)) ?_
      refine rg_done rfl ?_
      refine a_ret ?_
      show ∃ ds, ResL _ _ _ ds ∧ RV.of ds = _
      refine ⟨[.fl (.int .i64 (ix l k))], (.cons (.tmp rfl (.d _)) .nil), ?_⟩
      rw [fz_at (by omega) hq (t_bne h3)]; rfl
    · skip
      have h5 := f_bne h3
      refine a_skip ?_
      show A _ _ _ _ _ _ _
      refine a_region ?_
      refine rg_put (d := 16) (v := .d (.fl (.int .i64 (((k : Int) + 1))))) rfl (og rfl (op_bin rfl rfl rfl (fun x y w => b_add64 _ _ _ x y w (by omega)) rfl)) ?_
      refine rg_put (d := 8) (v := .d (.fl (.int .i64 (((k : Int) + 1))))) rfl (og rfl (op_move rfl rfl rfl)) ?_
      refine rg_done rfl ?_
      have hx : ix l k = 0 := f_bne h3
      show ∃ i, _ ∧ _ ∧ Imp _ _ _ _ _
      refine ⟨k + 1, ⟨by omega, fun q h => (Nat.lt_succ_iff_lt_or_eq.1 h).elim (hq q) (fun e => by rw [e]; exact hx)⟩, by omega, imp_forget rfl ⟨rfl, rfl, rfl, rfl, (by first | rfl | exact ci (by omega) | exact ci (by simp) | exact cd (by simp) | simp), trivial⟩ trivial⟩
  · skip
    have h6 := f_dec h1
    refine a_exit ?_
    show A _ _ _ _ _ _ _
    refine a_rseq ?_
    refine rg_put (d := 17) (v := .d (.fl (.int .i64 0))) rfl (og rfl (op_move rfl rfl rfl)) ?_
    refine rg_put (d := 2) (v := .d (.fl (.int .i64 0))) rfl (og rfl (op_assign rfl rfl rfl)) ?_
    refine rg_done rfl ?_
    refine a_ret ?_
    show ∃ ds, ResL _ _ _ ds ∧ RV.of ds = _
    refine ⟨[.fl (.int .i64 0)], (.cons (.tmp rfl (.d _)) .nil), ?_⟩
    rw [fz_no (fun q h => hq q (by omega))]; rfl
set_option maxHeartbeats 4000000 in
set_option maxRecDepth 100000 in
theorem fz22 (l : List Int) (hl : l.length ≤ 10) : Ctr Tryd.prog 22 [.sl 1 (List.map (rI .i64) l)] (.d (.fl (.int .i64 (fz l)))) := by
  refine ctr (n := 19) (rs := #[.tmp 2]) (L := [(0, .d (.sl 1 (List.map (rI .i64) l)))]) Tryd.func22 rfl rfl rfl rfl rfl (fun w0 U0 => ?_)
  refine a_rseq ?_
  refine rg_put (d := 2) (v := .d (.fl (.int .i64 0))) rfl (og rfl (op_assign rfl rfl rfl)) ?_
  refine rg_done rfl ?_
  refine a_seq ?_
  refine a_rseq ?_
  refine rg_put (d := 3) (v := .d (.fl (.int .i64 0))) rfl (og rfl (op_assign rfl rfl rfl)) ?_
  refine rg_done rfl ?_
  refine a_block ?_
  refine a_loop (ι := Nat) (fun k => SS [(0, .d (.sl 1 (List.map (rI .i64) l))), (3, .d (.fl (.int .i64 (k : Int))))] []) (fun k => k ≤ l.length ∧ ∀ q, q < k → ix l q = 0) (fun k => l.length - k) 0 (⟨by omega, fun q h => by omega⟩) (imp_forget rfl ⟨rfl, (by first | rfl | exact ci (by omega) | exact ci (by simp) | exact cd (by simp) | simp), trivial⟩ trivial) (fun k hok => ?_)
  obtain ⟨hk, hq⟩ := hok
  refine a_seq ?_
  refine a_rseq ?_
  refine rg_put (d := 4) (v := .d (.fl (.int .i64 (k : Int)))) rfl (og rfl (op_move rfl rfl rfl)) ?_
  refine rg_put (d := 5) (v := .d (.sl 1 (List.map (rI .i64) l))) rfl (og rfl (op_move rfl rfl rfl)) ?_
  refine rg_put (d := 6) (v := .d (.fl (.int .i64 (l.length : Int)))) rfl (og rfl (s_len rfl Tryd.underlying55 rfl rfl)) ?_
  refine rg_put (d := 7) (v := .d (.fl (.bool ((decide ((k : Int) < (l.length : Int))))))) rfl (og rfl (op_bin rfl rfl rfl (b_lss _ _ _ _) rfl)) ?_
  refine rg_done rfl ?_
  refine a_cond rfl (fun h1 => ?_) (fun h1 => ?_)
  · skip
    have h2 := t_dec h1
    refine a_skip ?_
    show A _ _ _ _ _ _ _
    refine a_seq ?_
    refine a_block ?_
    refine a_rseq ?_
    refine rg_put (d := 10) (v := .d (.sl 1 (List.map (rI .i64) l))) rfl (og rfl (op_move rfl rfl rfl)) ?_
    refine rg_put (d := 11) (v := .d (.fl (.int .i64 (k : Int)))) rfl (og rfl (op_move rfl rfl rfl)) ?_
    refine rg_put (d := 12) (v := .el ((rI .i64 (ix l k)))) rfl (og rfl (s_index rfl Tryd.underlying55 ti3 rfl rfl (by omega) (row_at (by omega)) rfl)) ?_
    refine rg_put (d := 13) (v := .d (.fl (.int .i64 (ix l k)))) rfl (og rfl (op_load_el rfl Tryd.underlying3 rfl rfl rfl rfl)) ?_
    refine rg_put (d := 14) (v := .d (.fl (.bool (((ix l k) != 0))))) rfl (og rfl (op_bin rfl rfl rfl (b_neq _ _ _ _) rfl)) ?_
    refine rg_done rfl ?_
    refine a_cond rfl (fun h3 => ?_) (fun h3 => ?_)
    · skip
      have h4 := t_bne h3
      refine a_rseq ?_
      refine rg_put (d := 15) (v := .d (.sl 1 (List.map (rI .i64) l))) rfl (og rfl (op_move rfl rfl rfl)) ?_
      refine rg_put (d := 16) (v := .d (.fl (.int .i64 (k : Int)))) rfl (og rfl (op_move rfl rfl rfl)) ?_
      refine rg_put (d := 17) (v := .el ((rI .i64 (ix l k)))) rfl (og rfl (s_index rfl Tryd.underlying55 ti3 rfl rfl (by omega) (row_at (by omega)) rfl)) ?_
      refine rg_put (d := 18) (v := .d (.fl (.int .i64 (ix l k)))) rfl (og rfl (op_load_el rfl Tryd.underlying3 rfl rfl rfl rfl)) ?_
      refine rg_put (d := 2) (v := .d (.fl (.int .i64 (ix l k)))) rfl (og rfl (op_assign rfl rfl rfl)) ?_
      refine rg_done rfl ?_
      refine a_ret ?_
      show ∃ ds, ResL _ _ _ ds ∧ RV.of ds = _
      refine ⟨[.fl (.int .i64 (ix l k))], (.cons (.tmp rfl (.d _)) .nil), ?_⟩
      rw [fz_at (by omega) hq (t_bne h3)]; rfl
    · skip
      have h5 := f_bne h3
      refine a_skip ?_
      show A _ _ _ _ _ _ _
      refine a_region ?_
      refine rg_put (d := 8) (v := .d (.fl (.int .i64 (k : Int)))) rfl (og rfl (op_move rfl rfl rfl)) ?_
      refine rg_put (d := 9) (v := .d (.fl (.int .i64 (((k : Int) + 1))))) rfl (og rfl (op_bin rfl rfl rfl (fun x y w => b_add64 _ _ _ x y w (by omega)) rfl)) ?_
      refine rg_put (d := 3) (v := .d (.fl (.int .i64 (((k : Int) + 1))))) rfl (og rfl (op_assign rfl rfl rfl)) ?_
      refine rg_done rfl ?_
      have hx : ix l k = 0 := f_bne h3
      show ∃ i, _ ∧ _ ∧ Imp _ _ _ _ _
      refine ⟨k + 1, ⟨by omega, fun q h => (Nat.lt_succ_iff_lt_or_eq.1 h).elim (hq q) (fun e => by rw [e]; exact hx)⟩, by omega, imp_forget rfl ⟨rfl, (by first | rfl | exact ci (by omega) | exact ci (by simp) | exact cd (by simp) | simp), trivial⟩ trivial⟩
  · skip
    have h6 := f_dec h1
    refine a_exit ?_
    show A _ _ _ _ _ _ _
    refine a_rseq ?_
    refine rg_put (d := 2) (v := .d (.fl (.int .i64 0))) rfl (og rfl (op_assign rfl rfl rfl)) ?_
    refine rg_done rfl ?_
    refine a_ret ?_
    show ∃ ds, ResL _ _ _ ds ∧ RV.of ds = _
    refine ⟨[.fl (.int .i64 0)], (.cons (.tmp rfl (.d _)) .nil), ?_⟩
    rw [fz_no (fun q h => hq q (by omega))]; rfl
set_option maxHeartbeats 4000000 in
set_option maxRecDepth 100000 in
theorem cd21 (a b : De) : Ctr Tryd.prog 21 [.ag (eDe a), .ag (eDe b)] (.d (.fl (.int .i64 (cd a b)))) := by
  refine ctr (n := 42) (rs := #[.tmp 4]) (L := [(0, .d (.ag (eDe a))), (1, .d (.ag (eDe b)))]) Tryd.func21 rfl rfl rfl rfl rfl (fun w0 U0 => ?_)
  refine a_rseq ?_
  refine rg_nam (d := 2) (v := .pt 101 0) (m := 101) (nw := [(101, .bx 23 (eDe a))]) rfl (og rfl (of_eff (op_box 101 rfl rfl rfl rfl) rfl)) rfl ?_
  refine rg_nam (d := 3) (v := .pt 102 0) (m := 102) (nw := [(102, .bx 23 (eDe b))]) rfl (og rfl (of_eff (op_box 102 rfl rfl rfl rfl) rfl)) rfl ?_
  refine rg_put (d := 4) (v := .d (.fl (.int .i64 0))) rfl (og rfl (op_assign rfl rfl rfl)) ?_
  refine rg_done rfl ?_
  refine a_dseq (by kernel_rfl) ?_
  refine dr_put (d := 5) (v := .pt 101 0) rfl (og rfl (of_eff (s_field_pt rfl Tryd.underlying23 rfl ti9 rfl rfl rfl) rfl)) ?_
  refine dr_put (d := 6) (v := .d (.fl (.string a.dev))) rfl (og rfl (op_load_pt rfl Tryd.underlying9 rfl rfl rfl rfl rfl)) ?_
  refine dr_put (d := 7) (v := .pt 102 0) rfl (og rfl (of_eff (s_field_pt rfl Tryd.underlying23 rfl ti9 rfl rfl rfl) rfl)) ?_
  refine dr_put (d := 8) (v := .d (.fl (.string b.dev))) rfl (og rfl (op_load_pt rfl Tryd.underlying9 rfl rfl rfl rfl rfl)) ?_
  refine dr_put (d := 9) (v := .d (.fl (.int .i64 (sc a.dev b.dev)))) rfl (og rfl (op_call rfl Tryd.func20 nm20 rfl (.cons rfl (.d _) (.cons rfl (.d _) .nil)) (sc20 a.dev b.dev) rfl)) ?_
  refine dr_put (d := 10) (v := .pt 101 1) rfl (og rfl (of_eff (s_field_pt rfl Tryd.underlying23 rfl ti3 rfl rfl rfl) rfl)) ?_
  refine dr_put (d := 11) (v := .d (.fl (.int .i64 a.seq))) rfl (og rfl (op_load_pt rfl Tryd.underlying3 rfl rfl rfl rfl rfl)) ?_
  refine dr_put (d := 12) (v := .pt 102 1) rfl (og rfl (of_eff (s_field_pt rfl Tryd.underlying23 rfl ti3 rfl rfl rfl) rfl)) ?_
  refine dr_put (d := 13) (v := .d (.fl (.int .i64 b.seq))) rfl (og rfl (op_load_pt rfl Tryd.underlying3 rfl rfl rfl rfl rfl)) ?_
  refine dr_put (d := 14) (v := .d (.fl (.int .i64 (ic a.seq b.seq)))) rfl (og rfl (op_call rfl Tryd.func18 nm18 rfl (.cons rfl (.d _) (.cons rfl (.d _) .nil)) (ic18 a.seq b.seq) rfl)) ?_
  refine dr_put (d := 15) (v := .pt 101 2) rfl (og rfl (of_eff (s_field_pt rfl Tryd.underlying23 rfl ti3 rfl rfl rfl) rfl)) ?_
  refine dr_put (d := 16) (v := .d (.fl (.int .i64 a.time))) rfl (og rfl (op_load_pt rfl Tryd.underlying3 rfl rfl rfl rfl rfl)) ?_
  refine dr_put (d := 17) (v := .pt 102 2) rfl (og rfl (of_eff (s_field_pt rfl Tryd.underlying23 rfl ti3 rfl rfl rfl) rfl)) ?_
  refine dr_put (d := 18) (v := .d (.fl (.int .i64 b.time))) rfl (og rfl (op_load_pt rfl Tryd.underlying3 rfl rfl rfl rfl rfl)) ?_
  refine dr_put (d := 19) (v := .d (.fl (.int .i64 (ic a.time b.time)))) rfl (og rfl (op_call rfl Tryd.func18 nm18 rfl (.cons rfl (.d _) (.cons rfl (.d _) .nil)) (ic18 a.time b.time) rfl)) ?_
  refine dr_put (d := 20) (v := .pt 101 3) rfl (og rfl (of_eff (s_field_pt rfl Tryd.underlying23 rfl ti9 rfl rfl rfl) rfl)) ?_
  refine dr_put (d := 21) (v := .d (.fl (.string a.tag))) rfl (og rfl (op_load_pt rfl Tryd.underlying9 rfl rfl rfl rfl rfl)) ?_
  refine dr_put (d := 22) (v := .pt 102 3) rfl (og rfl (of_eff (s_field_pt rfl Tryd.underlying23 rfl ti9 rfl rfl rfl) rfl)) ?_
  refine dr_put (d := 23) (v := .d (.fl (.string b.tag))) rfl (og rfl (op_load_pt rfl Tryd.underlying9 rfl rfl rfl rfl rfl)) ?_
  refine dr_put (d := 24) (v := .d (.fl (.int .i64 (sc a.tag b.tag)))) rfl (og rfl (op_call rfl Tryd.func20 nm20 rfl (.cons rfl (.d _) (.cons rfl (.d _) .nil)) (sc20 a.tag b.tag) rfl)) ?_
  refine dr_put (d := 25) (v := .pt 101 4) rfl (og rfl (of_eff (s_field_pt rfl Tryd.underlying23 rfl ti9 rfl rfl rfl) rfl)) ?_
  refine dr_put (d := 26) (v := .d (.fl (.string a.plate))) rfl (og rfl (op_load_pt rfl Tryd.underlying9 rfl rfl rfl rfl rfl)) ?_
  refine dr_put (d := 27) (v := .pt 102 4) rfl (og rfl (of_eff (s_field_pt rfl Tryd.underlying23 rfl ti9 rfl rfl rfl) rfl)) ?_
  refine dr_put (d := 28) (v := .d (.fl (.string b.plate))) rfl (og rfl (op_load_pt rfl Tryd.underlying9 rfl rfl rfl rfl rfl)) ?_
  refine dr_put (d := 29) (v := .d (.fl (.int .i64 (sc a.plate b.plate)))) rfl (og rfl (op_call rfl Tryd.func20 nm20 rfl (.cons rfl (.d _) (.cons rfl (.d _) .nil)) (sc20 a.plate b.plate) rfl)) ?_
  refine dr_put (d := 30) (v := .pt 101 5) rfl (og rfl (of_eff (s_field_pt rfl Tryd.underlying23 rfl ti3 rfl rfl rfl) rfl)) ?_
  refine dr_put (d := 31) (v := .d (.fl (.int .i64 a.axles))) rfl (og rfl (op_load_pt rfl Tryd.underlying3 rfl rfl rfl rfl rfl)) ?_
  refine dr_put (d := 32) (v := .pt 102 5) rfl (og rfl (of_eff (s_field_pt rfl Tryd.underlying23 rfl ti3 rfl rfl rfl) rfl)) ?_
  refine dr_put (d := 33) (v := .d (.fl (.int .i64 b.axles))) rfl (og rfl (op_load_pt rfl Tryd.underlying3 rfl rfl rfl rfl rfl)) ?_
  refine dr_put (d := 34) (v := .d (.fl (.int .i64 (ic a.axles b.axles)))) rfl (og rfl (op_call rfl Tryd.func18 nm18 rfl (.cons rfl (.d _) (.cons rfl (.d _) .nil)) (ic18 a.axles b.axles) rfl)) ?_
  refine dr_put (d := 35) (v := .pt 101 6) rfl (og rfl (of_eff (s_field_pt rfl Tryd.underlying23 rfl ti3 rfl rfl rfl) rfl)) ?_
  refine dr_put (d := 36) (v := .d (.fl (.int .i64 a.score))) rfl (og rfl (op_load_pt rfl Tryd.underlying3 rfl rfl rfl rfl rfl)) ?_
  refine dr_put (d := 37) (v := .pt 102 6) rfl (og rfl (of_eff (s_field_pt rfl Tryd.underlying23 rfl ti3 rfl rfl rfl) rfl)) ?_
  refine dr_put (d := 38) (v := .d (.fl (.int .i64 b.score))) rfl (og rfl (op_load_pt rfl Tryd.underlying3 rfl rfl rfl rfl rfl)) ?_
  refine dr_put (d := 39) (v := .d (.fl (.int .i64 (ic a.score b.score)))) rfl (og rfl (op_call rfl Tryd.func18 nm18 rfl (.cons rfl (.d _) (.cons rfl (.d _) .nil)) (ic18 a.score b.score) rfl)) ?_
  refine dr_put (d := 40) (v := .d (.sl 1 (List.map (rI .i64) [(sc a.dev b.dev), (ic a.seq b.seq), (ic a.time b.time), (sc a.tag b.tag), (sc a.plate b.plate), (ic a.axles b.axles), (ic a.score b.score)]))) rfl (og rfl (of_eff (op_slices rfl Tryd.underlying55 ti3 rfl rfl rfl (by kernel_rfl) (xs := [.fl (.int .i64 (sc a.dev b.dev)), .fl (.int .i64 (ic a.seq b.seq)), .fl (.int .i64 (ic a.time b.time)), .fl (.int .i64 (sc a.tag b.tag)), .fl (.int .i64 (sc a.plate b.plate)), .fl (.int .i64 (ic a.axles b.axles)), .fl (.int .i64 (ic a.score b.score))]) rfl rfl (.cons rfl rfl (.d _) rfl rfl rfl (.cons rfl rfl (.d _) rfl rfl rfl (.cons rfl rfl (.d _) rfl rfl rfl (.cons rfl rfl (.d _) rfl rfl rfl (.cons rfl rfl (.d _) rfl rfl rfl (.cons rfl rfl (.d _) rfl rfl rfl (.cons rfl rfl (.d _) rfl rfl rfl .nil))))))) rfl) rfl)) ?_
  refine dr_put (d := 41) (v := .d (.fl (.int .i64 ((fz [(sc a.dev b.dev), (ic a.seq b.seq), (ic a.time b.time), (sc a.tag b.tag), (sc a.plate b.plate), (ic a.axles b.axles), (ic a.score b.score)]))))) rfl (og rfl (op_call rfl Tryd.func19 nm19 rfl (.cons rfl (.d _) .nil) (fz19 [(sc a.dev b.dev), (ic a.seq b.seq), (ic a.time b.time), (sc a.tag b.tag), (sc a.plate b.plate), (ic a.axles b.axles), (ic a.score b.score)] (by simp)) rfl)) ?_
  refine dr_put (d := 4) (v := .d (.fl (.int .i64 ((fz [(sc a.dev b.dev), (ic a.seq b.seq), (ic a.time b.time), (sc a.tag b.tag), (sc a.plate b.plate), (ic a.axles b.axles), (ic a.score b.score)]))))) rfl (og rfl (op_assign rfl rfl rfl)) ?_
  refine dr_done rfl (sepB_of [0, 1, 0, 4, 15, 0, 32, 0, 128, 511, 0, 1024, 0, 4096, 16383, 0, 32768, 0, 131072, 524287, 0, 1048576, 0, 4194304, 16777215, 0, 33554432, 0, 134217728, 536870911, 0, 1073741824, 0, 4294967296, 17179869183, 34359738367, 68719476735, 137438953471] (by kernel_rfl)) (by kernel_rfl) ?_
  refine a_ret ?_
  show ∃ ds, ResL _ _ _ ds ∧ RV.of ds = _
  refine ⟨[.fl (.int .i64 ((fz [(sc a.dev b.dev), (ic a.seq b.seq), (ic a.time b.time), (sc a.tag b.tag), (sc a.plate b.plate), (ic a.axles b.axles), (ic a.score b.score)])))], (.cons (.tmp rfl (.d _)) .nil), ?_⟩
  rfl
set_option maxHeartbeats 4000000 in
set_option maxRecDepth 100000 in
theorem cd25 (a b : De) (ha : sh a = true) (hb : sh b = true) : Ctr Tryd.prog 25 [.ag (eDe a), .ag (eDe b)] (.d (.fl (.int .i64 (cd a b)))) := by
  have h1 := sh_t ha
  have h2 := sh_t hb
  refine ctr (n := 42) (rs := #[.tmp 4]) (L := [(0, .d (.ag (eDe a))), (1, .d (.ag (eDe b)))]) Tryd.func25 rfl rfl rfl rfl rfl (fun w0 U0 => ?_)
  refine a_rseq ?_
  refine rg_nam (d := 2) (v := .pt 101 0) (m := 101) (nw := [(101, .bx 23 (eDe a))]) rfl (og rfl (of_eff (op_box 101 rfl rfl rfl rfl) rfl)) rfl ?_
  refine rg_nam (d := 3) (v := .pt 102 0) (m := 102) (nw := [(102, .bx 23 (eDe b))]) rfl (og rfl (of_eff (op_box 102 rfl rfl rfl rfl) rfl)) rfl ?_
  refine rg_put (d := 4) (v := .d (.fl (.int .i64 0))) rfl (og rfl (op_assign rfl rfl rfl)) ?_
  refine rg_done rfl ?_
  refine a_dseq (by kernel_rfl) ?_
  refine dr_put (d := 5) (v := .pt 101 0) rfl (og rfl (of_eff (s_field_pt rfl Tryd.underlying23 rfl ti9 rfl rfl rfl) rfl)) ?_
  refine dr_put (d := 6) (v := .d (.fl (.string a.dev))) rfl (og rfl (op_load_pt rfl Tryd.underlying9 rfl rfl rfl rfl rfl)) ?_
  refine dr_put (d := 7) (v := .pt 102 0) rfl (og rfl (of_eff (s_field_pt rfl Tryd.underlying23 rfl ti9 rfl rfl rfl) rfl)) ?_
  refine dr_put (d := 8) (v := .d (.fl (.string b.dev))) rfl (og rfl (op_load_pt rfl Tryd.underlying9 rfl rfl rfl rfl rfl)) ?_
  refine dr_put (d := 9) (v := .d (.fl (.int .i64 (sc a.dev b.dev)))) rfl (og rfl (op_call rfl Tryd.func24 nm24 rfl (.cons rfl (.d _) (.cons rfl (.d _) .nil)) (sc24 a.dev b.dev (by omega) (by omega)) rfl)) ?_
  refine dr_put (d := 10) (v := .pt 101 1) rfl (og rfl (of_eff (s_field_pt rfl Tryd.underlying23 rfl ti3 rfl rfl rfl) rfl)) ?_
  refine dr_put (d := 11) (v := .d (.fl (.int .i64 a.seq))) rfl (og rfl (op_load_pt rfl Tryd.underlying3 rfl rfl rfl rfl rfl)) ?_
  refine dr_put (d := 12) (v := .pt 102 1) rfl (og rfl (of_eff (s_field_pt rfl Tryd.underlying23 rfl ti3 rfl rfl rfl) rfl)) ?_
  refine dr_put (d := 13) (v := .d (.fl (.int .i64 b.seq))) rfl (og rfl (op_load_pt rfl Tryd.underlying3 rfl rfl rfl rfl rfl)) ?_
  refine dr_put (d := 14) (v := .d (.fl (.int .i64 (ic a.seq b.seq)))) rfl (og rfl (op_call rfl Tryd.func23 nm23 rfl (.cons rfl (.d _) (.cons rfl (.d _) .nil)) (ic23 a.seq b.seq) rfl)) ?_
  refine dr_put (d := 15) (v := .pt 101 2) rfl (og rfl (of_eff (s_field_pt rfl Tryd.underlying23 rfl ti3 rfl rfl rfl) rfl)) ?_
  refine dr_put (d := 16) (v := .d (.fl (.int .i64 a.time))) rfl (og rfl (op_load_pt rfl Tryd.underlying3 rfl rfl rfl rfl rfl)) ?_
  refine dr_put (d := 17) (v := .pt 102 2) rfl (og rfl (of_eff (s_field_pt rfl Tryd.underlying23 rfl ti3 rfl rfl rfl) rfl)) ?_
  refine dr_put (d := 18) (v := .d (.fl (.int .i64 b.time))) rfl (og rfl (op_load_pt rfl Tryd.underlying3 rfl rfl rfl rfl rfl)) ?_
  refine dr_put (d := 19) (v := .d (.fl (.int .i64 (ic a.time b.time)))) rfl (og rfl (op_call rfl Tryd.func23 nm23 rfl (.cons rfl (.d _) (.cons rfl (.d _) .nil)) (ic23 a.time b.time) rfl)) ?_
  refine dr_put (d := 20) (v := .pt 101 3) rfl (og rfl (of_eff (s_field_pt rfl Tryd.underlying23 rfl ti9 rfl rfl rfl) rfl)) ?_
  refine dr_put (d := 21) (v := .d (.fl (.string a.tag))) rfl (og rfl (op_load_pt rfl Tryd.underlying9 rfl rfl rfl rfl rfl)) ?_
  refine dr_put (d := 22) (v := .pt 102 3) rfl (og rfl (of_eff (s_field_pt rfl Tryd.underlying23 rfl ti9 rfl rfl rfl) rfl)) ?_
  refine dr_put (d := 23) (v := .d (.fl (.string b.tag))) rfl (og rfl (op_load_pt rfl Tryd.underlying9 rfl rfl rfl rfl rfl)) ?_
  refine dr_put (d := 24) (v := .d (.fl (.int .i64 (sc a.tag b.tag)))) rfl (og rfl (op_call rfl Tryd.func24 nm24 rfl (.cons rfl (.d _) (.cons rfl (.d _) .nil)) (sc24 a.tag b.tag (by omega) (by omega)) rfl)) ?_
  refine dr_put (d := 25) (v := .pt 101 4) rfl (og rfl (of_eff (s_field_pt rfl Tryd.underlying23 rfl ti9 rfl rfl rfl) rfl)) ?_
  refine dr_put (d := 26) (v := .d (.fl (.string a.plate))) rfl (og rfl (op_load_pt rfl Tryd.underlying9 rfl rfl rfl rfl rfl)) ?_
  refine dr_put (d := 27) (v := .pt 102 4) rfl (og rfl (of_eff (s_field_pt rfl Tryd.underlying23 rfl ti9 rfl rfl rfl) rfl)) ?_
  refine dr_put (d := 28) (v := .d (.fl (.string b.plate))) rfl (og rfl (op_load_pt rfl Tryd.underlying9 rfl rfl rfl rfl rfl)) ?_
  refine dr_put (d := 29) (v := .d (.fl (.int .i64 (sc a.plate b.plate)))) rfl (og rfl (op_call rfl Tryd.func24 nm24 rfl (.cons rfl (.d _) (.cons rfl (.d _) .nil)) (sc24 a.plate b.plate (by omega) (by omega)) rfl)) ?_
  refine dr_put (d := 30) (v := .pt 101 5) rfl (og rfl (of_eff (s_field_pt rfl Tryd.underlying23 rfl ti3 rfl rfl rfl) rfl)) ?_
  refine dr_put (d := 31) (v := .d (.fl (.int .i64 a.axles))) rfl (og rfl (op_load_pt rfl Tryd.underlying3 rfl rfl rfl rfl rfl)) ?_
  refine dr_put (d := 32) (v := .pt 102 5) rfl (og rfl (of_eff (s_field_pt rfl Tryd.underlying23 rfl ti3 rfl rfl rfl) rfl)) ?_
  refine dr_put (d := 33) (v := .d (.fl (.int .i64 b.axles))) rfl (og rfl (op_load_pt rfl Tryd.underlying3 rfl rfl rfl rfl rfl)) ?_
  refine dr_put (d := 34) (v := .d (.fl (.int .i64 (ic a.axles b.axles)))) rfl (og rfl (op_call rfl Tryd.func23 nm23 rfl (.cons rfl (.d _) (.cons rfl (.d _) .nil)) (ic23 a.axles b.axles) rfl)) ?_
  refine dr_put (d := 35) (v := .pt 101 6) rfl (og rfl (of_eff (s_field_pt rfl Tryd.underlying23 rfl ti3 rfl rfl rfl) rfl)) ?_
  refine dr_put (d := 36) (v := .d (.fl (.int .i64 a.score))) rfl (og rfl (op_load_pt rfl Tryd.underlying3 rfl rfl rfl rfl rfl)) ?_
  refine dr_put (d := 37) (v := .pt 102 6) rfl (og rfl (of_eff (s_field_pt rfl Tryd.underlying23 rfl ti3 rfl rfl rfl) rfl)) ?_
  refine dr_put (d := 38) (v := .d (.fl (.int .i64 b.score))) rfl (og rfl (op_load_pt rfl Tryd.underlying3 rfl rfl rfl rfl rfl)) ?_
  refine dr_put (d := 39) (v := .d (.fl (.int .i64 (ic a.score b.score)))) rfl (og rfl (op_call rfl Tryd.func23 nm23 rfl (.cons rfl (.d _) (.cons rfl (.d _) .nil)) (ic23 a.score b.score) rfl)) ?_
  refine dr_put (d := 40) (v := .d (.sl 1 (List.map (rI .i64) [(sc a.dev b.dev), (ic a.seq b.seq), (ic a.time b.time), (sc a.tag b.tag), (sc a.plate b.plate), (ic a.axles b.axles), (ic a.score b.score)]))) rfl (og rfl (of_eff (op_slices rfl Tryd.underlying55 ti3 rfl rfl rfl (by kernel_rfl) (xs := [.fl (.int .i64 (sc a.dev b.dev)), .fl (.int .i64 (ic a.seq b.seq)), .fl (.int .i64 (ic a.time b.time)), .fl (.int .i64 (sc a.tag b.tag)), .fl (.int .i64 (sc a.plate b.plate)), .fl (.int .i64 (ic a.axles b.axles)), .fl (.int .i64 (ic a.score b.score))]) rfl rfl (.cons rfl rfl (.d _) rfl rfl rfl (.cons rfl rfl (.d _) rfl rfl rfl (.cons rfl rfl (.d _) rfl rfl rfl (.cons rfl rfl (.d _) rfl rfl rfl (.cons rfl rfl (.d _) rfl rfl rfl (.cons rfl rfl (.d _) rfl rfl rfl (.cons rfl rfl (.d _) rfl rfl rfl .nil))))))) rfl) rfl)) ?_
  refine dr_put (d := 41) (v := .d (.fl (.int .i64 ((fz [(sc a.dev b.dev), (ic a.seq b.seq), (ic a.time b.time), (sc a.tag b.tag), (sc a.plate b.plate), (ic a.axles b.axles), (ic a.score b.score)]))))) rfl (og rfl (op_call rfl Tryd.func22 nm22 rfl (.cons rfl (.d _) .nil) (fz22 [(sc a.dev b.dev), (ic a.seq b.seq), (ic a.time b.time), (sc a.tag b.tag), (sc a.plate b.plate), (ic a.axles b.axles), (ic a.score b.score)] (by simp)) rfl)) ?_
  refine dr_put (d := 4) (v := .d (.fl (.int .i64 ((fz [(sc a.dev b.dev), (ic a.seq b.seq), (ic a.time b.time), (sc a.tag b.tag), (sc a.plate b.plate), (ic a.axles b.axles), (ic a.score b.score)]))))) rfl (og rfl (op_assign rfl rfl rfl)) ?_
  refine dr_done rfl (sepB_of [0, 1, 0, 4, 15, 0, 32, 0, 128, 511, 0, 1024, 0, 4096, 16383, 0, 32768, 0, 131072, 524287, 0, 1048576, 0, 4194304, 16777215, 0, 33554432, 0, 134217728, 536870911, 0, 1073741824, 0, 4294967296, 17179869183, 34359738367, 68719476735, 137438953471] (by kernel_rfl)) (by kernel_rfl) ?_
  refine a_ret ?_
  show ∃ ds, ResL _ _ _ ds ∧ RV.of ds = _
  refine ⟨[.fl (.int .i64 ((fz [(sc a.dev b.dev), (ic a.seq b.seq), (ic a.time b.time), (sc a.tag b.tag), (sc a.plate b.plate), (ic a.axles b.axles), (ic a.score b.score)])))], (.cons (.tmp rfl (.d _)) .nil), ?_⟩
  rfl
set_option maxHeartbeats 4000000 in
set_option maxRecDepth 100000 in
theorem cs7 (a b : Sn) : Ctr Tryd.prog 7 [.ag (eSn a), .ag (eSn b)] (.d (.fl (.int .i64 (cs a b)))) := by
  refine ctr (n := 36) (rs := #[.tmp 4]) (L := [(0, .d (.ag (eSn a))), (1, .d (.ag (eSn b)))]) Tryd.func7 rfl rfl rfl rfl rfl (fun w0 U0 => ?_)
  refine a_rseq ?_
  refine rg_nam (d := 2) (v := .pt 101 0) (m := 101) (nw := [(101, .bx 25 (eSn a))]) rfl (og rfl (of_eff (op_box 101 rfl rfl rfl rfl) rfl)) rfl ?_
  refine rg_nam (d := 3) (v := .pt 102 0) (m := 102) (nw := [(102, .bx 25 (eSn b))]) rfl (og rfl (of_eff (op_box 102 rfl rfl rfl rfl) rfl)) rfl ?_
  refine rg_put (d := 4) (v := .d (.fl (.int .i64 0))) rfl (og rfl (op_assign rfl rfl rfl)) ?_
  refine rg_done rfl ?_
  refine a_seq ?_
  refine a_rseq ?_
  refine rg_put (d := 6) (v := .pt 101 7) rfl (og rfl (of_eff (s_field_pt rfl Tryd.underlying25 rfl ti3 rfl rfl rfl) rfl)) ?_
  refine rg_put (d := 7) (v := .d (.fl (.int .i64 a.time))) rfl (og rfl (op_load_pt rfl Tryd.underlying3 rfl rfl rfl rfl rfl)) ?_
  refine rg_put (d := 8) (v := .pt 102 7) rfl (og rfl (of_eff (s_field_pt rfl Tryd.underlying25 rfl ti3 rfl rfl rfl) rfl)) ?_
  refine rg_put (d := 9) (v := .d (.fl (.int .i64 b.time))) rfl (og rfl (op_load_pt rfl Tryd.underlying3 rfl rfl rfl rfl rfl)) ?_
  refine rg_put (d := 10) (v := .d (.fl (.int .i64 (ic a.time b.time)))) rfl (og rfl (op_call rfl Tryd.func18 nm18 rfl (.cons rfl (.d _) (.cons rfl (.d _) .nil)) (ic18 a.time b.time) rfl)) ?_
  refine rg_put (d := 5) (v := .d (.fl (.int .i64 (ic a.time b.time)))) rfl (og rfl (op_assign rfl rfl rfl)) ?_
  refine rg_done rfl ?_
  refine a_rseq ?_
  refine rg_put (d := 11) (v := .d (.fl (.int .i64 (ic a.time b.time)))) rfl (og rfl (op_move rfl rfl rfl)) ?_
  refine rg_put (d := 12) (v := .d (.fl (.bool (((ic a.time b.time) != 0))))) rfl (og rfl (op_bin rfl rfl rfl (b_neq _ _ _ _) rfl)) ?_
  refine rg_done rfl ?_
  refine a_cond rfl (fun h1 => ?_) (fun h1 => ?_)
  · skip
    have h2 := t_bne h1
    refine a_rseq ?_
    refine rg_put (d := 13) (v := .d (.fl (.int .i64 (ic a.time b.time)))) rfl (og rfl (op_move rfl rfl rfl)) ?_
    refine rg_put (d := 4) (v := .d (.fl (.int .i64 (ic a.time b.time)))) rfl (og rfl (op_assign rfl rfl rfl)) ?_
    refine rg_done rfl ?_
    refine a_ret ?_
    show ∃ ds, ResL _ _ _ ds ∧ RV.of ds = _
    refine ⟨[.fl (.int .i64 (ic a.time b.time))], (.cons (.tmp rfl (.d _)) .nil), ?_⟩
    rw [cs_first h1]; rfl
  · skip
    have h3 := f_bne h1
    refine a_skip ?_
    show A _ _ _ _ _ _ _
    refine a_dseq (by kernel_rfl) ?_
    refine dr_put (d := 14) (v := .pt 101 8) rfl (og rfl (of_eff (s_field_pt rfl Tryd.underlying25 rfl ti9 rfl rfl rfl) rfl)) ?_
    refine dr_put (d := 15) (v := .d (.fl (.string a.point))) rfl (og rfl (op_load_pt rfl Tryd.underlying9 rfl rfl rfl rfl rfl)) ?_
    refine dr_put (d := 16) (v := .pt 102 8) rfl (og rfl (of_eff (s_field_pt rfl Tryd.underlying25 rfl ti9 rfl rfl rfl) rfl)) ?_
    refine dr_put (d := 17) (v := .d (.fl (.string b.point))) rfl (og rfl (op_load_pt rfl Tryd.underlying9 rfl rfl rfl rfl rfl)) ?_
    refine dr_put (d := 18) (v := .d (.fl (.int .i64 (sc a.point b.point)))) rfl (og rfl (op_call rfl Tryd.func20 nm20 rfl (.cons rfl (.d _) (.cons rfl (.d _) .nil)) (sc20 a.point b.point) rfl)) ?_
    refine dr_put (d := 19) (v := .pt 101 10) rfl (og rfl (of_eff (s_field_pt rfl Tryd.underlying25 rfl ti3 rfl rfl rfl) rfl)) ?_
    refine dr_put (d := 20) (v := .d (.fl (.int .i64 a.kind))) rfl (og rfl (op_load_pt rfl Tryd.underlying3 rfl rfl rfl rfl rfl)) ?_
    refine dr_put (d := 21) (v := .pt 102 10) rfl (og rfl (of_eff (s_field_pt rfl Tryd.underlying25 rfl ti3 rfl rfl rfl) rfl)) ?_
    refine dr_put (d := 22) (v := .d (.fl (.int .i64 b.kind))) rfl (og rfl (op_load_pt rfl Tryd.underlying3 rfl rfl rfl rfl rfl)) ?_
    refine dr_put (d := 23) (v := .d (.fl (.int .i64 (ic a.kind b.kind)))) rfl (og rfl (op_call rfl Tryd.func18 nm18 rfl (.cons rfl (.d _) (.cons rfl (.d _) .nil)) (ic18 a.kind b.kind) rfl)) ?_
    refine dr_put (d := 24) (v := .pt 101 9) rfl (og rfl (of_eff (s_field_pt rfl Tryd.underlying25 rfl ti3 rfl rfl rfl) rfl)) ?_
    refine dr_put (d := 25) (v := .d (.fl (.int .i64 a.lane))) rfl (og rfl (op_load_pt rfl Tryd.underlying3 rfl rfl rfl rfl rfl)) ?_
    refine dr_put (d := 26) (v := .pt 102 9) rfl (og rfl (of_eff (s_field_pt rfl Tryd.underlying25 rfl ti3 rfl rfl rfl) rfl)) ?_
    refine dr_put (d := 27) (v := .d (.fl (.int .i64 b.lane))) rfl (og rfl (op_load_pt rfl Tryd.underlying3 rfl rfl rfl rfl rfl)) ?_
    refine dr_put (d := 28) (v := .d (.fl (.int .i64 (ic a.lane b.lane)))) rfl (og rfl (op_call rfl Tryd.func18 nm18 rfl (.cons rfl (.d _) (.cons rfl (.d _) .nil)) (ic18 a.lane b.lane) rfl)) ?_
    refine dr_put (d := 29) (v := .pt 101 0) rfl (og rfl (of_eff (s_field_pt rfl Tryd.underlying25 rfl ti23 rfl rfl rfl) rfl)) ?_
    refine dr_put (d := 30) (v := .d (.ag (eDe a.d))) rfl (og rfl (of_eff (s_load_pts rfl Tryd.underlying23 rfl ti23 rfl rfl rfl rfl) rfl)) ?_
    refine dr_put (d := 31) (v := .pt 102 0) rfl (og rfl (of_eff (s_field_pt rfl Tryd.underlying25 rfl ti23 rfl rfl rfl) rfl)) ?_
    refine dr_put (d := 32) (v := .d (.ag (eDe b.d))) rfl (og rfl (of_eff (s_load_pts rfl Tryd.underlying23 rfl ti23 rfl rfl rfl rfl) rfl)) ?_
    refine dr_put (d := 33) (v := .d (.fl (.int .i64 (cd a.d b.d)))) rfl (og rfl (op_call rfl Tryd.func21 nm21 rfl (.cons rfl (.d _) (.cons rfl (.d _) .nil)) (cd21 a.d b.d) rfl)) ?_
    refine dr_put (d := 34) (v := .d (.sl 1 (List.map (rI .i64) [(sc a.point b.point), (ic a.kind b.kind), (ic a.lane b.lane), (cd a.d b.d)]))) rfl (og rfl (of_eff (op_slices rfl Tryd.underlying55 ti3 rfl rfl rfl (by kernel_rfl) (xs := [.fl (.int .i64 (sc a.point b.point)), .fl (.int .i64 (ic a.kind b.kind)), .fl (.int .i64 (ic a.lane b.lane)), .fl (.int .i64 (cd a.d b.d))]) rfl rfl (.cons rfl rfl (.d _) rfl rfl rfl (.cons rfl rfl (.d _) rfl rfl rfl (.cons rfl rfl (.d _) rfl rfl rfl (.cons rfl rfl (.d _) rfl rfl rfl .nil)))) rfl) rfl)) ?_
    refine dr_put (d := 35) (v := .d (.fl (.int .i64 ((fz [(sc a.point b.point), (ic a.kind b.kind), (ic a.lane b.lane), (cd a.d b.d)]))))) rfl (og rfl (op_call rfl Tryd.func19 nm19 rfl (.cons rfl (.d _) .nil) (fz19 [(sc a.point b.point), (ic a.kind b.kind), (ic a.lane b.lane), (cd a.d b.d)] (by simp)) rfl)) ?_
    refine dr_put (d := 4) (v := .d (.fl (.int .i64 ((fz [(sc a.point b.point), (ic a.kind b.kind), (ic a.lane b.lane), (cd a.d b.d)]))))) rfl (og rfl (op_assign rfl rfl rfl)) ?_
    refine dr_done rfl (sepB_of [0, 1, 0, 4, 15, 0, 32, 0, 128, 511, 0, 1024, 0, 4096, 16383, 0, 32768, 0, 131072, 524287, 1048575, 2097151, 4194303] (by kernel_rfl)) (by kernel_rfl) ?_
    refine a_ret ?_
    show ∃ ds, ResL _ _ _ ds ∧ RV.of ds = _
    refine ⟨[.fl (.int .i64 ((fz [(sc a.point b.point), (ic a.kind b.kind), (ic a.lane b.lane), (cd a.d b.d)])))], (.cons (.tmp rfl (.d _)) .nil), ?_⟩
    rw [cs_rest h1]; rfl
set_option maxHeartbeats 4000000 in
set_option maxRecDepth 100000 in
theorem cs8 (a b : Sn) (ha : sh a.d = true) (hb : sh b.d = true) (h1 : a.point.size ≤ 40) (h2 : b.point.size ≤ 40) : Ctr Tryd.prog 8 [.ag (eSn a), .ag (eSn b)] (.d (.fl (.int .i64 (cs a b)))) := by
  refine ctr (n := 32) (rs := #[.tmp 4]) (L := [(0, .d (.ag (eSn a))), (1, .d (.ag (eSn b)))]) Tryd.func8 rfl rfl rfl rfl rfl (fun w0 U0 => ?_)
  refine a_rseq ?_
  refine rg_nam (d := 2) (v := .pt 101 0) (m := 101) (nw := [(101, .bx 25 (eSn a))]) rfl (og rfl (of_eff (op_box 101 rfl rfl rfl rfl) rfl)) rfl ?_
  refine rg_nam (d := 3) (v := .pt 102 0) (m := 102) (nw := [(102, .bx 25 (eSn b))]) rfl (og rfl (of_eff (op_box 102 rfl rfl rfl rfl) rfl)) rfl ?_
  refine rg_put (d := 4) (v := .d (.fl (.int .i64 0))) rfl (og rfl (op_assign rfl rfl rfl)) ?_
  refine rg_done rfl ?_
  refine a_dseq (by kernel_rfl) ?_
  refine dr_put (d := 5) (v := .pt 101 7) rfl (og rfl (of_eff (s_field_pt rfl Tryd.underlying25 rfl ti3 rfl rfl rfl) rfl)) ?_
  refine dr_put (d := 6) (v := .d (.fl (.int .i64 a.time))) rfl (og rfl (op_load_pt rfl Tryd.underlying3 rfl rfl rfl rfl rfl)) ?_
  refine dr_put (d := 7) (v := .pt 102 7) rfl (og rfl (of_eff (s_field_pt rfl Tryd.underlying25 rfl ti3 rfl rfl rfl) rfl)) ?_
  refine dr_put (d := 8) (v := .d (.fl (.int .i64 b.time))) rfl (og rfl (op_load_pt rfl Tryd.underlying3 rfl rfl rfl rfl rfl)) ?_
  refine dr_put (d := 9) (v := .d (.fl (.int .i64 (ic a.time b.time)))) rfl (og rfl (op_call rfl Tryd.func23 nm23 rfl (.cons rfl (.d _) (.cons rfl (.d _) .nil)) (ic23 a.time b.time) rfl)) ?_
  refine dr_put (d := 10) (v := .pt 101 8) rfl (og rfl (of_eff (s_field_pt rfl Tryd.underlying25 rfl ti9 rfl rfl rfl) rfl)) ?_
  refine dr_put (d := 11) (v := .d (.fl (.string a.point))) rfl (og rfl (op_load_pt rfl Tryd.underlying9 rfl rfl rfl rfl rfl)) ?_
  refine dr_put (d := 12) (v := .pt 102 8) rfl (og rfl (of_eff (s_field_pt rfl Tryd.underlying25 rfl ti9 rfl rfl rfl) rfl)) ?_
  refine dr_put (d := 13) (v := .d (.fl (.string b.point))) rfl (og rfl (op_load_pt rfl Tryd.underlying9 rfl rfl rfl rfl rfl)) ?_
  refine dr_put (d := 14) (v := .d (.fl (.int .i64 (sc a.point b.point)))) rfl (og rfl (op_call rfl Tryd.func24 nm24 rfl (.cons rfl (.d _) (.cons rfl (.d _) .nil)) (sc24 a.point b.point (by omega) (by omega)) rfl)) ?_
  refine dr_put (d := 15) (v := .pt 101 10) rfl (og rfl (of_eff (s_field_pt rfl Tryd.underlying25 rfl ti3 rfl rfl rfl) rfl)) ?_
  refine dr_put (d := 16) (v := .d (.fl (.int .i64 a.kind))) rfl (og rfl (op_load_pt rfl Tryd.underlying3 rfl rfl rfl rfl rfl)) ?_
  refine dr_put (d := 17) (v := .pt 102 10) rfl (og rfl (of_eff (s_field_pt rfl Tryd.underlying25 rfl ti3 rfl rfl rfl) rfl)) ?_
  refine dr_put (d := 18) (v := .d (.fl (.int .i64 b.kind))) rfl (og rfl (op_load_pt rfl Tryd.underlying3 rfl rfl rfl rfl rfl)) ?_
  refine dr_put (d := 19) (v := .d (.fl (.int .i64 (ic a.kind b.kind)))) rfl (og rfl (op_call rfl Tryd.func23 nm23 rfl (.cons rfl (.d _) (.cons rfl (.d _) .nil)) (ic23 a.kind b.kind) rfl)) ?_
  refine dr_put (d := 20) (v := .pt 101 9) rfl (og rfl (of_eff (s_field_pt rfl Tryd.underlying25 rfl ti3 rfl rfl rfl) rfl)) ?_
  refine dr_put (d := 21) (v := .d (.fl (.int .i64 a.lane))) rfl (og rfl (op_load_pt rfl Tryd.underlying3 rfl rfl rfl rfl rfl)) ?_
  refine dr_put (d := 22) (v := .pt 102 9) rfl (og rfl (of_eff (s_field_pt rfl Tryd.underlying25 rfl ti3 rfl rfl rfl) rfl)) ?_
  refine dr_put (d := 23) (v := .d (.fl (.int .i64 b.lane))) rfl (og rfl (op_load_pt rfl Tryd.underlying3 rfl rfl rfl rfl rfl)) ?_
  refine dr_put (d := 24) (v := .d (.fl (.int .i64 (ic a.lane b.lane)))) rfl (og rfl (op_call rfl Tryd.func23 nm23 rfl (.cons rfl (.d _) (.cons rfl (.d _) .nil)) (ic23 a.lane b.lane) rfl)) ?_
  refine dr_put (d := 25) (v := .pt 101 0) rfl (og rfl (of_eff (s_field_pt rfl Tryd.underlying25 rfl ti23 rfl rfl rfl) rfl)) ?_
  refine dr_put (d := 26) (v := .d (.ag (eDe a.d))) rfl (og rfl (of_eff (s_load_pts rfl Tryd.underlying23 rfl ti23 rfl rfl rfl rfl) rfl)) ?_
  refine dr_put (d := 27) (v := .pt 102 0) rfl (og rfl (of_eff (s_field_pt rfl Tryd.underlying25 rfl ti23 rfl rfl rfl) rfl)) ?_
  refine dr_put (d := 28) (v := .d (.ag (eDe b.d))) rfl (og rfl (of_eff (s_load_pts rfl Tryd.underlying23 rfl ti23 rfl rfl rfl rfl) rfl)) ?_
  refine dr_put (d := 29) (v := .d (.fl (.int .i64 (cd a.d b.d)))) rfl (og rfl (op_call rfl Tryd.func25 nm25 rfl (.cons rfl (.d _) (.cons rfl (.d _) .nil)) (cd25 a.d b.d ha hb) rfl)) ?_
  refine dr_put (d := 30) (v := .d (.sl 1 (List.map (rI .i64) [(ic a.time b.time), (sc a.point b.point), (ic a.kind b.kind), (ic a.lane b.lane), (cd a.d b.d)]))) rfl (og rfl (of_eff (op_slices rfl Tryd.underlying55 ti3 rfl rfl rfl (by kernel_rfl) (xs := [.fl (.int .i64 (ic a.time b.time)), .fl (.int .i64 (sc a.point b.point)), .fl (.int .i64 (ic a.kind b.kind)), .fl (.int .i64 (ic a.lane b.lane)), .fl (.int .i64 (cd a.d b.d))]) rfl rfl (.cons rfl rfl (.d _) rfl rfl rfl (.cons rfl rfl (.d _) rfl rfl rfl (.cons rfl rfl (.d _) rfl rfl rfl (.cons rfl rfl (.d _) rfl rfl rfl (.cons rfl rfl (.d _) rfl rfl rfl .nil))))) rfl) rfl)) ?_
  refine dr_put (d := 31) (v := .d (.fl (.int .i64 ((fz [(ic a.time b.time), (sc a.point b.point), (ic a.kind b.kind), (ic a.lane b.lane), (cd a.d b.d)]))))) rfl (og rfl (op_call rfl Tryd.func22 nm22 rfl (.cons rfl (.d _) .nil) (fz22 [(ic a.time b.time), (sc a.point b.point), (ic a.kind b.kind), (ic a.lane b.lane), (cd a.d b.d)] (by simp)) rfl)) ?_
  refine dr_put (d := 4) (v := .d (.fl (.int .i64 ((fz [(ic a.time b.time), (sc a.point b.point), (ic a.kind b.kind), (ic a.lane b.lane), (cd a.d b.d)]))))) rfl (og rfl (op_assign rfl rfl rfl)) ?_
  refine dr_done rfl (sepB_of [0, 1, 0, 4, 15, 0, 32, 0, 128, 511, 0, 1024, 0, 4096, 16383, 0, 32768, 0, 131072, 524287, 0, 1048576, 0, 4194304, 16777215, 33554431, 67108863, 134217727] (by kernel_rfl)) (by kernel_rfl) ?_
  refine a_ret ?_
  show ∃ ds, ResL _ _ _ ds ∧ RV.of ds = _
  refine ⟨[.fl (.int .i64 ((fz [(ic a.time b.time), (sc a.point b.point), (ic a.kind b.kind), (ic a.lane b.lane), (cd a.d b.d)])))], (.cons (.tmp rfl (.d _)) .nil), ?_⟩
  rfl
set_option maxHeartbeats 4000000 in
set_option maxRecDepth 100000 in
theorem cj26 (a b : Rj) : Ctr Tryd.prog 26 [.ag (eRj a), .ag (eRj b)] (.d (.fl (.int .i64 (cj a b)))) := by
  refine ctr (n := 17) (rs := #[.tmp 4]) (L := [(0, .d (.ag (eRj a))), (1, .d (.ag (eRj b)))]) Tryd.func26 rfl rfl rfl rfl rfl (fun w0 U0 => ?_)
  refine a_rseq ?_
  refine rg_nam (d := 2) (v := .pt 101 0) (m := 101) (nw := [(101, .bx 29 (eRj a))]) rfl (og rfl (of_eff (op_box 101 rfl rfl rfl rfl) rfl)) rfl ?_
  refine rg_nam (d := 3) (v := .pt 102 0) (m := 102) (nw := [(102, .bx 29 (eRj b))]) rfl (og rfl (of_eff (op_box 102 rfl rfl rfl rfl) rfl)) rfl ?_
  refine rg_put (d := 4) (v := .d (.fl (.int .i64 0))) rfl (og rfl (op_assign rfl rfl rfl)) ?_
  refine rg_done rfl ?_
  refine a_dseq (by kernel_rfl) ?_
  refine dr_put (d := 5) (v := .pt 101 0) rfl (og rfl (of_eff (s_field_pt rfl Tryd.underlying29 rfl ti23 rfl rfl rfl) rfl)) ?_
  refine dr_put (d := 6) (v := .d (.ag (eDe a.d))) rfl (og rfl (of_eff (s_load_pts rfl Tryd.underlying23 rfl ti23 rfl rfl rfl rfl) rfl)) ?_
  refine dr_put (d := 7) (v := .pt 102 0) rfl (og rfl (of_eff (s_field_pt rfl Tryd.underlying29 rfl ti23 rfl rfl rfl) rfl)) ?_
  refine dr_put (d := 8) (v := .d (.ag (eDe b.d))) rfl (og rfl (of_eff (s_load_pts rfl Tryd.underlying23 rfl ti23 rfl rfl rfl rfl) rfl)) ?_
  refine dr_put (d := 9) (v := .d (.fl (.int .i64 (cd a.d b.d)))) rfl (og rfl (op_call rfl Tryd.func21 nm21 rfl (.cons rfl (.d _) (.cons rfl (.d _) .nil)) (cd21 a.d b.d) rfl)) ?_
  refine dr_put (d := 10) (v := .pt 101 7) rfl (og rfl (of_eff (s_field_pt rfl Tryd.underlying29 rfl ti3 rfl rfl rfl) rfl)) ?_
  refine dr_put (d := 11) (v := .d (.fl (.int .i64 a.why))) rfl (og rfl (op_load_pt rfl Tryd.underlying3 rfl rfl rfl rfl rfl)) ?_
  refine dr_put (d := 12) (v := .pt 102 7) rfl (og rfl (of_eff (s_field_pt rfl Tryd.underlying29 rfl ti3 rfl rfl rfl) rfl)) ?_
  refine dr_put (d := 13) (v := .d (.fl (.int .i64 b.why))) rfl (og rfl (op_load_pt rfl Tryd.underlying3 rfl rfl rfl rfl rfl)) ?_
  refine dr_put (d := 14) (v := .d (.fl (.int .i64 (ic a.why b.why)))) rfl (og rfl (op_call rfl Tryd.func18 nm18 rfl (.cons rfl (.d _) (.cons rfl (.d _) .nil)) (ic18 a.why b.why) rfl)) ?_
  refine dr_put (d := 15) (v := .d (.sl 1 (List.map (rI .i64) [(cd a.d b.d), (ic a.why b.why)]))) rfl (og rfl (of_eff (op_slices rfl Tryd.underlying55 ti3 rfl rfl rfl (by kernel_rfl) (xs := [.fl (.int .i64 (cd a.d b.d)), .fl (.int .i64 (ic a.why b.why))]) rfl rfl (.cons rfl rfl (.d _) rfl rfl rfl (.cons rfl rfl (.d _) rfl rfl rfl .nil)) rfl) rfl)) ?_
  refine dr_put (d := 16) (v := .d (.fl (.int .i64 ((fz [(cd a.d b.d), (ic a.why b.why)]))))) rfl (og rfl (op_call rfl Tryd.func19 nm19 rfl (.cons rfl (.d _) .nil) (fz19 [(cd a.d b.d), (ic a.why b.why)] (by simp)) rfl)) ?_
  refine dr_put (d := 4) (v := .d (.fl (.int .i64 ((fz [(cd a.d b.d), (ic a.why b.why)]))))) rfl (og rfl (op_assign rfl rfl rfl)) ?_
  refine dr_done rfl (by kernel_rfl) (by kernel_rfl) ?_
  refine a_ret ?_
  show ∃ ds, ResL _ _ _ ds ∧ RV.of ds = _
  refine ⟨[.fl (.int .i64 ((fz [(cd a.d b.d), (ic a.why b.why)])))], (.cons (.tmp rfl (.d _)) .nil), ?_⟩
  rfl
set_option maxHeartbeats 4000000 in
set_option maxRecDepth 100000 in
theorem cj27 (a b : Rj) (ha : sh a.d = true) (hb : sh b.d = true) : Ctr Tryd.prog 27 [.ag (eRj a), .ag (eRj b)] (.d (.fl (.int .i64 (cj a b)))) := by
  refine ctr (n := 17) (rs := #[.tmp 4]) (L := [(0, .d (.ag (eRj a))), (1, .d (.ag (eRj b)))]) Tryd.func27 rfl rfl rfl rfl rfl (fun w0 U0 => ?_)
  refine a_rseq ?_
  refine rg_nam (d := 2) (v := .pt 101 0) (m := 101) (nw := [(101, .bx 29 (eRj a))]) rfl (og rfl (of_eff (op_box 101 rfl rfl rfl rfl) rfl)) rfl ?_
  refine rg_nam (d := 3) (v := .pt 102 0) (m := 102) (nw := [(102, .bx 29 (eRj b))]) rfl (og rfl (of_eff (op_box 102 rfl rfl rfl rfl) rfl)) rfl ?_
  refine rg_put (d := 4) (v := .d (.fl (.int .i64 0))) rfl (og rfl (op_assign rfl rfl rfl)) ?_
  refine rg_done rfl ?_
  refine a_dseq (by kernel_rfl) ?_
  refine dr_put (d := 5) (v := .pt 101 0) rfl (og rfl (of_eff (s_field_pt rfl Tryd.underlying29 rfl ti23 rfl rfl rfl) rfl)) ?_
  refine dr_put (d := 6) (v := .d (.ag (eDe a.d))) rfl (og rfl (of_eff (s_load_pts rfl Tryd.underlying23 rfl ti23 rfl rfl rfl rfl) rfl)) ?_
  refine dr_put (d := 7) (v := .pt 102 0) rfl (og rfl (of_eff (s_field_pt rfl Tryd.underlying29 rfl ti23 rfl rfl rfl) rfl)) ?_
  refine dr_put (d := 8) (v := .d (.ag (eDe b.d))) rfl (og rfl (of_eff (s_load_pts rfl Tryd.underlying23 rfl ti23 rfl rfl rfl rfl) rfl)) ?_
  refine dr_put (d := 9) (v := .d (.fl (.int .i64 (cd a.d b.d)))) rfl (og rfl (op_call rfl Tryd.func25 nm25 rfl (.cons rfl (.d _) (.cons rfl (.d _) .nil)) (cd25 a.d b.d ha hb) rfl)) ?_
  refine dr_put (d := 10) (v := .pt 101 7) rfl (og rfl (of_eff (s_field_pt rfl Tryd.underlying29 rfl ti3 rfl rfl rfl) rfl)) ?_
  refine dr_put (d := 11) (v := .d (.fl (.int .i64 a.why))) rfl (og rfl (op_load_pt rfl Tryd.underlying3 rfl rfl rfl rfl rfl)) ?_
  refine dr_put (d := 12) (v := .pt 102 7) rfl (og rfl (of_eff (s_field_pt rfl Tryd.underlying29 rfl ti3 rfl rfl rfl) rfl)) ?_
  refine dr_put (d := 13) (v := .d (.fl (.int .i64 b.why))) rfl (og rfl (op_load_pt rfl Tryd.underlying3 rfl rfl rfl rfl rfl)) ?_
  refine dr_put (d := 14) (v := .d (.fl (.int .i64 (ic a.why b.why)))) rfl (og rfl (op_call rfl Tryd.func23 nm23 rfl (.cons rfl (.d _) (.cons rfl (.d _) .nil)) (ic23 a.why b.why) rfl)) ?_
  refine dr_put (d := 15) (v := .d (.sl 1 (List.map (rI .i64) [(cd a.d b.d), (ic a.why b.why)]))) rfl (og rfl (of_eff (op_slices rfl Tryd.underlying55 ti3 rfl rfl rfl (by kernel_rfl) (xs := [.fl (.int .i64 (cd a.d b.d)), .fl (.int .i64 (ic a.why b.why))]) rfl rfl (.cons rfl rfl (.d _) rfl rfl rfl (.cons rfl rfl (.d _) rfl rfl rfl .nil)) rfl) rfl)) ?_
  refine dr_put (d := 16) (v := .d (.fl (.int .i64 ((fz [(cd a.d b.d), (ic a.why b.why)]))))) rfl (og rfl (op_call rfl Tryd.func22 nm22 rfl (.cons rfl (.d _) .nil) (fz22 [(cd a.d b.d), (ic a.why b.why)] (by simp)) rfl)) ?_
  refine dr_put (d := 4) (v := .d (.fl (.int .i64 ((fz [(cd a.d b.d), (ic a.why b.why)]))))) rfl (og rfl (op_assign rfl rfl rfl)) ?_
  refine dr_done rfl (by kernel_rfl) (by kernel_rfl) ?_
  refine a_ret ?_
  show ∃ ds, ResL _ _ _ ds ∧ RV.of ds = _
  refine ⟨[.fl (.int .i64 ((fz [(cd a.d b.d), (ic a.why b.why)])))], (.cons (.tmp rfl (.d _)) .nil), ?_⟩
  rfl
set_option maxHeartbeats 4000000 in
set_option maxRecDepth 100000 in
theorem lj9 (a b : Rj) : Ctr Tryd.prog 9 [.ag (eRj a), .ag (eRj b)] (.d (.fl (.bool (decide (cj a b < 0))))) := by
  refine ctr (n := 9) (rs := #[.tmp 4]) (L := [(0, .d (.ag (eRj a))), (1, .d (.ag (eRj b)))]) Tryd.func9 rfl rfl rfl rfl rfl (fun w0 U0 => ?_)
  refine a_rseq ?_
  refine rg_nam (d := 2) (v := .pt 101 0) (m := 101) (nw := [(101, .bx 29 (eRj a))]) rfl (og rfl (of_eff (op_box 101 rfl rfl rfl rfl) rfl)) rfl ?_
  refine rg_nam (d := 3) (v := .pt 102 0) (m := 102) (nw := [(102, .bx 29 (eRj b))]) rfl (og rfl (of_eff (op_box 102 rfl rfl rfl rfl) rfl)) rfl ?_
  refine rg_put (d := 4) (v := .d (.fl (.bool false))) rfl (og rfl (op_assign rfl rfl rfl)) ?_
  refine rg_done rfl ?_
  refine a_rseq ?_
  refine rg_put (d := 5) (v := .d (.ag (eRj a))) rfl (og rfl (of_eff (s_load_pts rfl Tryd.underlying29 rfl ti29 rfl rfl rfl rfl) rfl)) ?_
  refine rg_put (d := 6) (v := .d (.ag (eRj b))) rfl (og rfl (of_eff (s_load_pts rfl Tryd.underlying29 rfl ti29 rfl rfl rfl rfl) rfl)) ?_
  refine rg_put (d := 7) (v := .d (.fl (.int .i64 (cj a b)))) rfl (og rfl (op_call rfl Tryd.func26 nm26 rfl (.cons rfl (.d _) (.cons rfl (.d _) .nil)) (cj26 a b) rfl)) ?_
  refine rg_put (d := 8) (v := .d (.fl (.bool ((decide ((cj a b) < 0)))))) rfl (og rfl (op_bin rfl rfl rfl (b_lss _ _ _ _) rfl)) ?_
  refine rg_put (d := 4) (v := .d (.fl (.bool ((decide ((cj a b) < 0)))))) rfl (og rfl (op_assign rfl rfl rfl)) ?_
  refine rg_done rfl ?_
  refine a_ret ?_
  show ∃ ds, ResL _ _ _ ds ∧ RV.of ds = _
  refine ⟨[.fl (.bool ((decide ((cj a b) < 0))))], (.cons (.tmp rfl (.d _)) .nil), ?_⟩
  rfl
set_option maxHeartbeats 4000000 in
set_option maxRecDepth 100000 in
theorem lj10 (a b : Rj) (ha : sh a.d = true) (hb : sh b.d = true) : Ctr Tryd.prog 10 [.ag (eRj a), .ag (eRj b)] (.d (.fl (.bool (decide (cj a b < 0))))) := by
  refine ctr (n := 9) (rs := #[.tmp 4]) (L := [(0, .d (.ag (eRj a))), (1, .d (.ag (eRj b)))]) Tryd.func10 rfl rfl rfl rfl rfl (fun w0 U0 => ?_)
  refine a_rseq ?_
  refine rg_nam (d := 2) (v := .pt 101 0) (m := 101) (nw := [(101, .bx 29 (eRj a))]) rfl (og rfl (of_eff (op_box 101 rfl rfl rfl rfl) rfl)) rfl ?_
  refine rg_nam (d := 3) (v := .pt 102 0) (m := 102) (nw := [(102, .bx 29 (eRj b))]) rfl (og rfl (of_eff (op_box 102 rfl rfl rfl rfl) rfl)) rfl ?_
  refine rg_put (d := 4) (v := .d (.fl (.bool false))) rfl (og rfl (op_assign rfl rfl rfl)) ?_
  refine rg_done rfl ?_
  refine a_rseq ?_
  refine rg_put (d := 5) (v := .d (.ag (eRj a))) rfl (og rfl (of_eff (s_load_pts rfl Tryd.underlying29 rfl ti29 rfl rfl rfl rfl) rfl)) ?_
  refine rg_put (d := 6) (v := .d (.ag (eRj b))) rfl (og rfl (of_eff (s_load_pts rfl Tryd.underlying29 rfl ti29 rfl rfl rfl rfl) rfl)) ?_
  refine rg_put (d := 7) (v := .d (.fl (.int .i64 (cj a b)))) rfl (og rfl (op_call rfl Tryd.func27 nm27 rfl (.cons rfl (.d _) (.cons rfl (.d _) .nil)) (cj27 a b ha hb) rfl)) ?_
  refine rg_put (d := 8) (v := .d (.fl (.bool ((decide ((cj a b) < 0)))))) rfl (og rfl (op_bin rfl rfl rfl (b_lss _ _ _ _) rfl)) ?_
  refine rg_put (d := 4) (v := .d (.fl (.bool ((decide ((cj a b) < 0)))))) rfl (og rfl (op_assign rfl rfl rfl)) ?_
  refine rg_done rfl ?_
  refine a_ret ?_
  show ∃ ds, ResL _ _ _ ds ∧ RV.of ds = _
  refine ⟨[.fl (.bool ((decide ((cj a b) < 0))))], (.cons (.tmp rfl (.d _)) .nil), ?_⟩
  rfl
set_option maxHeartbeats 4000000 in
set_option maxRecDepth 100000 in
theorem sh5 (d : De) : Ctr Tryd.prog 5 [.ag (eDe d)] (.d (.fl (.bool (sh d)))) := by
  refine ctr (n := 19) (rs := #[.tmp 2]) (L := [(0, .d (.ag (eDe d)))]) Tryd.func5 rfl rfl rfl rfl rfl (fun w0 U0 => ?_)
  refine a_rseq ?_
  refine rg_nam (d := 1) (v := .pt 101 0) (m := 101) (nw := [(101, .bx 23 (eDe d))]) rfl (og rfl (of_eff (op_box 101 rfl rfl rfl rfl) rfl)) rfl ?_
  refine rg_put (d := 2) (v := .d (.fl (.bool false))) rfl (og rfl (op_assign rfl rfl rfl)) ?_
  refine rg_done rfl ?_
  refine a_rseq ?_
  refine rg_put (d := 3) (v := .pt 101 0) rfl (og rfl (of_eff (s_field_pt rfl Tryd.underlying23 rfl ti9 rfl rfl rfl) rfl)) ?_
  refine rg_put (d := 4) (v := .d (.fl (.string d.dev))) rfl (og rfl (op_load_pt rfl Tryd.underlying9 rfl rfl rfl rfl rfl)) ?_
  refine rg_put (d := 5) (v := .d (.fl (.int .i64 (d.dev.size : Int)))) rfl (og rfl (op_len_str rfl Tryd.underlying9 rfl rfl)) ?_
  refine rg_put (d := 6) (v := .d (.fl (.bool ((decide ((d.dev.size : Int) ≤ 40)))))) rfl (og rfl (op_bin rfl rfl rfl (b_leq _ _ _ _) rfl)) ?_
  refine rg_put (d := 7) (v := .d (.fl (.bool ((decide ((d.dev.size : Int) ≤ 40)))))) rfl (og rfl (op_move rfl rfl rfl)) ?_
  rcases fot ((decide ((d.dev.size : Int) ≤ 40))) with h1 | h1
  · skip
    have h2 := f_dec h1
    refine rg_put (d := 8) (v := .d (.fl undef)) rfl (on rfl rfl rfl h1) ?_
    refine rg_put (d := 9) (v := .d (.fl undef)) rfl (on rfl rfl rfl h1) ?_
    refine rg_put (d := 10) (v := .d (.fl undef)) rfl (on rfl rfl rfl h1) ?_
    refine rg_put (d := 11) (v := .d (.fl undef)) rfl (on rfl rfl rfl h1) ?_
    refine rg_put (d := 12) (v := .d (.fl (.bool false))) rfl (og rfl (op_pick rfl rfl (by rw [h1]; rfl) rfl)) ?_
    refine rg_put (d := 13) (v := .d (.fl (.bool false))) rfl (og rfl (op_move rfl rfl rfl)) ?_
    refine rg_put (d := 14) (v := .d (.fl undef)) rfl (on rfl rfl rfl rfl) ?_
    refine rg_put (d := 15) (v := .d (.fl undef)) rfl (on rfl rfl rfl rfl) ?_
    refine rg_put (d := 16) (v := .d (.fl undef)) rfl (on rfl rfl rfl rfl) ?_
    refine rg_put (d := 17) (v := .d (.fl undef)) rfl (on rfl rfl rfl rfl) ?_
    refine rg_put (d := 18) (v := .d (.fl (.bool false))) rfl (og rfl (op_pick rfl rfl rfl rfl)) ?_
    refine rg_put (d := 2) (v := .d (.fl (.bool false))) rfl (og rfl (op_assign rfl rfl rfl)) ?_
    refine rg_done rfl ?_
    refine a_ret ?_
    show ∃ ds, ResL _ _ _ ds ∧ RV.of ds = _
    refine ⟨[.fl (.bool false)], (.cons (.tmp rfl (.d _)) .nil), ?_⟩
    first
      | (have hu : sh d = false := by
          unfold sh; simp only [h1, Bool.true_or, Bool.false_or, Bool.or_true, Bool.or_false, Bool.not_true, Bool.not_false, cond_true, cond_false, Bool.true_and, Bool.false_and, Bool.and_true, Bool.and_false] <;> rfl
         rw [hu]; rfl)
      | (exfalso; omega)
  · skip
    have h3 := t_dec h1
    refine rg_put (d := 8) (v := .pt 101 3) rfl (oy rfl rfl rfl h1 (of_eff (s_field_pt rfl Tryd.underlying23 rfl ti9 rfl rfl rfl) rfl)) ?_
    refine rg_put (d := 9) (v := .d (.fl (.string d.tag))) rfl (oy rfl rfl rfl h1 (op_load_pt rfl Tryd.underlying9 rfl rfl rfl rfl rfl)) ?_
    refine rg_put (d := 10) (v := .d (.fl (.int .i64 (d.tag.size : Int)))) rfl (oy rfl rfl rfl h1 (op_len_str rfl Tryd.underlying9 rfl rfl)) ?_
    refine rg_put (d := 11) (v := .d (.fl (.bool ((decide ((d.tag.size : Int) ≤ 40)))))) rfl (oy rfl rfl rfl h1 (op_bin rfl rfl rfl (b_leq _ _ _ _) rfl)) ?_
    refine rg_put (d := 12) (v := .d (.fl (.bool ((decide ((d.tag.size : Int) ≤ 40)))))) rfl (og rfl (op_pick rfl rfl (by rw [h1]; rfl) rfl)) ?_
    refine rg_put (d := 13) (v := .d (.fl (.bool ((decide ((d.tag.size : Int) ≤ 40)))))) rfl (og rfl (op_move rfl rfl rfl)) ?_
    rcases fot ((decide ((d.tag.size : Int) ≤ 40))) with h4 | h4
    · skip
      have h5 := f_dec h4
      refine rg_put (d := 14) (v := .d (.fl undef)) rfl (on rfl rfl rfl h4) ?_
      refine rg_put (d := 15) (v := .d (.fl undef)) rfl (on rfl rfl rfl h4) ?_
      refine rg_put (d := 16) (v := .d (.fl undef)) rfl (on rfl rfl rfl h4) ?_
      refine rg_put (d := 17) (v := .d (.fl undef)) rfl (on rfl rfl rfl h4) ?_
      refine rg_put (d := 18) (v := .d (.fl (.bool false))) rfl (og rfl (op_pick rfl rfl (by rw [h4]; rfl) rfl)) ?_
      refine rg_put (d := 2) (v := .d (.fl (.bool false))) rfl (og rfl (op_assign rfl rfl rfl)) ?_
      refine rg_done rfl ?_
      refine a_ret ?_
      show ∃ ds, ResL _ _ _ ds ∧ RV.of ds = _
      refine ⟨[.fl (.bool false)], (.cons (.tmp rfl (.d _)) .nil), ?_⟩
      first
        | (have hu : sh d = false := by
            unfold sh; simp only [h1, h4, Bool.true_or, Bool.false_or, Bool.or_true, Bool.or_false, Bool.not_true, Bool.not_false, cond_true, cond_false, Bool.true_and, Bool.false_and, Bool.and_true, Bool.and_false] <;> rfl
           rw [hu]; rfl)
        | (exfalso; omega)
    · skip
      have h6 := t_dec h4
      refine rg_put (d := 14) (v := .pt 101 4) rfl (oy rfl rfl rfl h4 (of_eff (s_field_pt rfl Tryd.underlying23 rfl ti9 rfl rfl rfl) rfl)) ?_
      refine rg_put (d := 15) (v := .d (.fl (.string d.plate))) rfl (oy rfl rfl rfl h4 (op_load_pt rfl Tryd.underlying9 rfl rfl rfl rfl rfl)) ?_
      refine rg_put (d := 16) (v := .d (.fl (.int .i64 (d.plate.size : Int)))) rfl (oy rfl rfl rfl h4 (op_len_str rfl Tryd.underlying9 rfl rfl)) ?_
      refine rg_put (d := 17) (v := .d (.fl (.bool ((decide ((d.plate.size : Int) ≤ 40)))))) rfl (oy rfl rfl rfl h4 (op_bin rfl rfl rfl (b_leq _ _ _ _) rfl)) ?_
      refine rg_put (d := 18) (v := .d (.fl (.bool ((decide ((d.plate.size : Int) ≤ 40)))))) rfl (og rfl (op_pick rfl rfl (by rw [h4]; rfl) rfl)) ?_
      refine rg_put (d := 2) (v := .d (.fl (.bool ((decide ((d.plate.size : Int) ≤ 40)))))) rfl (og rfl (op_assign rfl rfl rfl)) ?_
      refine rg_done rfl ?_
      refine a_ret ?_
      show ∃ ds, ResL _ _ _ ds ∧ RV.of ds = _
      refine ⟨[.fl (.bool ((decide ((d.plate.size : Int) ≤ 40))))], (.cons (.tmp rfl (.d _)) .nil), ?_⟩
      first
        | (have hu : sh d = (decide ((d.plate.size : Int) ≤ 40)) := by
            unfold sh; simp only [h1, h4, Bool.true_or, Bool.false_or, Bool.or_true, Bool.or_false, Bool.not_true, Bool.not_false, cond_true, cond_false, Bool.true_and, Bool.false_and, Bool.and_true, Bool.and_false] <;> rfl
           rw [hu]; rfl)
        | (exfalso; omega)
end Go.Proofs.YtidloonhhckkgaaDoor.Wk
