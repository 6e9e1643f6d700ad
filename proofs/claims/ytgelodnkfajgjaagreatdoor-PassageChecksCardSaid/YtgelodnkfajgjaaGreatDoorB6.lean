/- Networks and points, both sides. Conditions: as each theorem names them. -/
import Derived.Lib.ItoaLen
import Derived.Test.YtgelodnkfajgjaaGreatDoorNw
import Derived.Test.YtgelodnkfajgjaaGreatDoorTw
import Derived.Test.YtgelodnkfajgjaaGreatDoorOw
import Derived.Test.YtgelodnkfajgjaaGreatDoorAvH
import Derived.Test.YtgelodnkfajgjaaGreatDoorAvI
import Derived.Test.YtgelodnkfajgjaaGreatDoorKe
import Derived.Test.YtgelodnkfajgjaaGreatDoorP1
set_option linter.unusedSimpArgs false
set_option linter.unusedVariables false
namespace Go.Proofs.YtgelodnkfajgjaaGreatDoor.Wk
open Go Go.RowKit Go.Shelf Go.Lib Go.Proofs.YtgelodnkfajgjaaGreatDoor Go.Proofs.YtgelodnkfajgjaaGreatDoor.Pm Go.Proofs.YtgelodnkfajgjaaGreatDoor.Av
theorem less_at : ∀ (x y : List UInt8) (k : Nat), k < x.length → k < y.length → (∀ q, q < k → x.getD q 0 = y.getD q 0) → x.getD k 0 ≠ y.getD k 0 → Op.bytesLess x y = decide (x.getD k 0 < y.getD k 0)
  | [], _, _, h, _, _, _ => by simp at h
  | _ :: _, [], _, _, h, _, _ => by simp at h
  | a :: x, b :: y, 0, _, _, _, h => by
    have h' : a ≠ b := by simpa using h
    simp [Op.bytesLess, h']
  | a :: x, b :: y, k + 1, h1, h2, h3, h4 => by
    have e : a = b := by simpa using h3 0 (by omega)
    subst e
    have ih := less_at x y k (by simpa using h1) (by simpa using h2) (fun q hq => by simpa using h3 (q + 1) (by omega)) (by simpa using h4)
    simp [Op.bytesLess, ih, UInt8.lt_irrefl]
theorem less_end : ∀ (x y : List UInt8), (∀ q, q < x.length → q < y.length → x.getD q 0 = y.getD q 0) → Op.bytesLess x y = decide (x.length < y.length)
  | [], [], _ => by simp [Op.bytesLess]
  | [], _ :: _, _ => by simp [Op.bytesLess]
  | _ :: _, [], _ => by simp [Op.bytesLess]
  | a :: x, b :: y, h => by
    have e : a = b := by simpa using h 0 (by simp) (by simp)
    subst e
    have ih := less_end x y (fun q h1 h2 => by simpa using h (q + 1) (by simpa using h1) (by simpa using h2))
    simp [Op.bytesLess, ih, UInt8.lt_irrefl]
theorem dlen (s : ByteArray) : s.data.toList.length = s.size := by simp
theorem bef_at {a b : ByteArray} {k : Nat} (h1 : k < a.size) (h2 : k < b.size) (hq : ∀ q, q < k → bt a q = bt b q) (h : bt a k ≠ bt b k) : sLt a b = decide (((bt a k).toNat : Int) < ((bt b k).toNat : Int)) := by
  unfold sLt
  rw [ByteArray.toList_eq, ByteArray.toList_eq, less_at a.data.toList b.data.toList k (by rw [dlen]; exact h1) (by rw [dlen]; exact h2) hq h]
  show decide (bt a k < bt b k) = _
  rw [decide_eq_decide, UInt8.lt_iff_toNat_lt]
  omega
theorem bef_end {a b : ByteArray} {k : Nat} (h : ¬ (k < a.size ∧ k < b.size)) (hq : ∀ q, q < k → bt a q = bt b q) : sLt a b = decide ((a.size : Int) < (b.size : Int)) := by
  unfold sLt
  rw [ByteArray.toList_eq, ByteArray.toList_eq, less_end a.data.toList b.data.toList (fun q h1 h2 => hq q (by rw [dlen] at h1 h2; omega)), dlen, dlen, decide_eq_decide]
  omega
theorem sLt_self (s : ByteArray) : sLt s s = false := by
  rw [bef_end (a := s) (b := s) (k := s.size) (by omega) (fun _ _ => rfl)]
  simp
theorem sLt_ne {s u : ByteArray} (h : sLt s u = true) : sEq s u = false := by
  cases he : sEq s u with
  | false => rfl
  | true => rw [of_decide_eq_true (show decide (s = u) = true from he), sLt_self] at h; cases h
def ic (a b : Int) : Int := bif decide (a < b) then -1 else bif decide (b < a) then 1 else 0
def sc (s u : ByteArray) : Int := bif sEq s u then 0 else bif sLt s u then -1 else 1
theorem sc_lt {s u : ByteArray} (h : sLt s u = true) : sc s u = -1 := by unfold sc; rw [sLt_ne h, h]; rfl
theorem sc_gt {s u : ByteArray} (h : sLt s u = false) (h2 : (sLt s u || sEq s u) = false) : sc s u = 1 := by
  rw [h, Bool.false_or] at h2
  unfold sc; rw [h2, h]; rfl
theorem sc_eq {s u : ByteArray} (h : sLt s u = false) (h2 : (sLt s u || sEq s u) = true) : sc s u = 0 := by
  rw [h, Bool.false_or] at h2
  unfold sc; rw [h2]; rfl
def fz : List Int → Int
  | [] => 0
  | x :: l => bif x != 0 then x else fz l
theorem fz_at : ∀ {l : List Int} {k : Nat}, k < l.length → (∀ q, q < k → ix l q = 0) → ix l k ≠ 0 → fz l = ix l k
  | [], _, h, _, _ => by simp at h
  | x :: l, 0, _, _, h => by
    have h' : x ≠ 0 := h
    show (bif x != 0 then x else fz l) = x
    rw [show (x != 0) = true by simpa using h']; rfl
  | x :: l, k + 1, h1, h2, h3 => by
    have h' : x = 0 := h2 0 (by omega)
    show (bif x != 0 then x else fz l) = ix l k
    rw [show (x != 0) = false by simpa using h', cond_false]
    exact fz_at (by simpa using h1) (fun q hq => h2 (q + 1) (by omega)) h3
theorem fz_no : ∀ {l : List Int}, (∀ q, q < l.length → ix l q = 0) → fz l = 0
  | [], _ => rfl
  | x :: l, h => by
    have h' : x = 0 := h 0 (by simp)
    show (bif x != 0 then x else fz l) = 0
    rw [show (x != 0) = false by simpa using h', cond_false]
    exact fz_no (fun q hq => h (q + 1) (by simpa using hq))

theorem less_tot : ∀ (x y : List UInt8), Op.bytesLess x y = false → x ≠ y → Op.bytesLess y x = true
  | [], [], _, h => absurd rfl h
  | [], _ :: _, h, _ => by simp [Op.bytesLess] at h
  | _ :: _, [], _, _ => by simp [Op.bytesLess]
  | a :: x, b :: y, h, hn => by
    simp only [Op.bytesLess, Bool.or_eq_false_iff, decide_eq_false_iff_not, Bool.and_eq_false_iff] at h
    simp only [Op.bytesLess, Bool.or_eq_true, decide_eq_true_eq, Bool.and_eq_true, beq_iff_eq]
    by_cases e : a = b
    · subst e
      refine .inr ⟨rfl, less_tot x y ?_ (fun e => hn (by rw [e]))⟩
      rcases h.2 with h2 | h2
      · simp at h2
      · exact h2
    · left
      rcases UInt8.lt_or_lt_of_ne e with h2 | h2
      · exact absurd h2 h.1
      · exact h2
theorem sEq_t {s u : ByteArray} (h : sEq s u = true) : s = u := of_decide_eq_true h
theorem sEq_f {s u : ByteArray} (h : sEq s u = false) : s.toList ≠ u.toList := fun e => by
  have := toList_sEq s u
  rw [e] at this
  rw [h] at this; simp at this
theorem sLt_tot {s u : ByteArray} (h : sLt s u = false) (h2 : sEq s u = false) : sLt u s = true := less_tot _ _ h (sEq_f h2)
theorem sc_cases (s u : ByteArray) : (sc s u = 0 ∧ s = u) ∨ (sc s u = -1 ∧ sLt s u = true ∧ s ≠ u) ∨ (sc s u = 1 ∧ sLt u s = true ∧ s ≠ u) := by
  unfold sc
  cases h : sEq s u with
  | true => exact .inl ⟨rfl, sEq_t h⟩
  | false =>
    have hn : s ≠ u := fun e => by rw [e] at h; unfold sEq at h; simp at h
    cases h2 : sLt s u with
    | true => exact .inr (.inl ⟨rfl, rfl, hn⟩)
    | false => exact .inr (.inr ⟨rfl, sLt_tot h2 h, hn⟩)
def Neg (x y : Int) : Prop := x = -y
def Tq (x y z : Int) : Prop := x ≤ 0 → y ≤ 0 → z ≤ 0 ∧ (z < 0 ↔ x < 0 ∨ y < 0)
inductive T3 : List Int → List Int → List Int → Prop
  | nil : T3 [] [] []
  | cons {x y z : Int} {l m n : List Int} (h : Tq x y z) (hs : T3 l m n) : T3 (x :: l) (y :: m) (z :: n)
def fe (f : Nat → Int) : Nat → Nat → Int
  | _, 0 => 0
  | i, n + 1 => if f i = 0 then fe f (i + 1) n else f i
theorem fe_at {f : Nat → Int} {k n : Nat} (h : k < n) : fe f k (n - k) = if f k = 0 then fe f (k + 1) (n - (k + 1)) else f k := by
  rw [show n - k = (n - (k + 1)) + 1 by omega]; rfl
theorem fe_end {f : Nat → Int} {k n : Nat} (h : ¬ k < n) : fe f k (n - k) = 0 := by
  rw [show n - k = 0 by omega]; rfl
theorem fe_no {f : Nat → Int} {k n : Nat} {c : Int} (h : k < n) (hc : c = fe f k (n - k)) (hb : f k = 0) : c = fe f (k + 1) (n - (k + 1)) := by rw [hc, fe_at h, if_pos hb]
theorem fe_yes {f : Nat → Int} {k n : Nat} {c e : Int} (h : k < n) (hc : c = fe f k (n - k)) (hb : f k = e) (he : e ≠ 0) : c = e := by rw [hc, fe_at h, hb, if_neg he]

set_option maxHeartbeats 4000000 in
set_option maxRecDepth 100000 in
theorem nanI (x : Int) : Ctr Tryz.prog 113 [.fl (.int .i64 x)] (.d (.fl (.bool (x != x)))) := by
  refine ctr (n := 6) (rs := #[.tmp 2]) (L := [(0, .d (.fl (.int .i64 x)))]) Tryz.func113 rfl rfl rfl rfl rfl (fun w0 U0 => ?_)
  refine a_rseq ?_
  refine rg_put (d := 2) (v := .d (.fl (.bool false))) rfl (og rfl (op_assign rfl rfl rfl)) ?_
  refine rg_done rfl ?_
  refine a_rseq ?_
  refine rg_put (d := 3) (v := .d (.fl (.int .i64 x))) rfl (og rfl (op_move rfl rfl rfl)) ?_
  refine rg_put (d := 4) (v := .d (.fl (.int .i64 x))) rfl (og rfl (op_move rfl rfl rfl)) ?_
  refine rg_put (d := 5) (v := .d (.fl (.bool (x != x)))) rfl (og rfl (op_bin rfl rfl rfl (b_neq _ _ _ _) rfl)) ?_
  refine rg_put (d := 2) (v := .d (.fl (.bool (x != x)))) rfl (og rfl (op_assign rfl rfl rfl)) ?_
  refine rg_done rfl ?_
  refine a_ret ?_
  show ∃ ds, ResL _ _ _ ds ∧ RV.of ds = _
  refine ⟨[.fl (.bool (x != x))], (.cons (.tmp rfl (.d _)) .nil), ?_⟩
  rfl
set_option maxHeartbeats 4000000 in
set_option maxRecDepth 100000 in
theorem nanS (s : ByteArray) : Ctr Tryz.prog 114 [.fl (.string s)] (.d (.fl (.bool (!(sEq s s))))) := by
  refine ctr (n := 6) (rs := #[.tmp 2]) (L := [(0, .d (.fl (.string s)))]) Tryz.func114 rfl rfl rfl rfl rfl (fun w0 U0 => ?_)
  refine a_rseq ?_
  refine rg_put (d := 2) (v := .d (.fl (.bool false))) rfl (og rfl (op_assign rfl rfl rfl)) ?_
  refine rg_done rfl ?_
  refine a_rseq ?_
  refine rg_put (d := 3) (v := .d (.fl (.string s))) rfl (og rfl (op_move rfl rfl rfl)) ?_
  refine rg_put (d := 4) (v := .d (.fl (.string s))) rfl (og rfl (op_move rfl rfl rfl)) ?_
  refine rg_put (d := 5) (v := .d (.fl (.bool ((!(sEq s s)))))) rfl (og rfl (op_bin rfl rfl rfl (b_sne _ _ _) rfl)) ?_
  refine rg_put (d := 2) (v := .d (.fl (.bool ((!(sEq s s)))))) rfl (og rfl (op_assign rfl rfl rfl)) ?_
  refine rg_done rfl ?_
  refine a_ret ?_
  show ∃ ds, ResL _ _ _ ds ∧ RV.of ds = _
  refine ⟨[.fl (.bool ((!(sEq s s))))], (.cons (.tmp rfl (.d _)) .nil), ?_⟩
  rfl
set_option maxHeartbeats 4000000 in
set_option maxRecDepth 100000 in
theorem icC (x y : Int) : Ctr Tryz.prog 78 [.fl (.int .i64 x), .fl (.int .i64 y)] (.d (.fl (.int .i64 (ic x y)))) := by
  refine ctr (n := 20) (rs := #[.tmp 4]) (L := [(0, .d (.fl (.int .i64 x))), (1, .d (.fl (.int .i64 y)))]) Tryz.func78 rfl rfl rfl rfl rfl (fun w0 U0 => ?_)
  refine a_rseq ?_
  refine rg_put (d := 4) (v := .d (.fl (.int .i64 0))) rfl (og rfl (op_assign rfl rfl rfl)) ?_
  refine rg_done rfl ?_
  refine a_rseq ?_
  refine rg_put (d := 7) (v := .d (.fl (.int .i64 x))) rfl (og rfl (op_move rfl rfl rfl)) ?_
  refine rg_put (d := 8) (v := .d (.fl (.bool (x != x)))) rfl (og rfl (op_call rfl Tryz.func113 nm113 rfl (.cons rfl (.d _) .nil) (nanI x) rfl)) ?_
  refine rg_put (d := 5) (v := .d (.fl (.bool (x != x)))) rfl (og rfl (op_assign rfl rfl rfl)) ?_
  refine rg_done rfl ?_
  refine a_rseq ?_
  refine rg_put (d := 9) (v := .d (.fl (.int .i64 y))) rfl (og rfl (op_move rfl rfl rfl)) ?_
  refine rg_put (d := 10) (v := .d (.fl (.bool (y != y)))) rfl (og rfl (op_call rfl Tryz.func113 nm113 rfl (.cons rfl (.d _) .nil) (nanI y) rfl)) ?_
  refine rg_put (d := 6) (v := .d (.fl (.bool (y != y)))) rfl (og rfl (op_assign rfl rfl rfl)) ?_
  refine rg_done rfl ?_
  refine a_seq ?_
  refine a_rseq ?_
  refine rg_put (d := 11) (v := .d (.fl (.bool (x != x)))) rfl (og rfl (op_move rfl rfl rfl)) ?_
  refine rg_done rfl ?_
  refine a_condF rfl (ne_self_b _) ?_
  refine a_skip ?_
  show A _ _ _ _ _ _ _
  refine a_seq ?_
  refine a_rseq ?_
  refine rg_put (d := 13) (v := .d (.fl (.bool (y != y)))) rfl (og rfl (op_move rfl rfl rfl)) ?_
  refine rg_done rfl ?_
  refine a_condF rfl (ne_self_b _) ?_
  refine a_skip ?_
  show A _ _ _ _ _ _ _
  refine a_seq ?_
  refine a_rseq ?_
  refine rg_put (d := 14) (v := .d (.fl (.int .i64 x))) rfl (og rfl (op_move rfl rfl rfl)) ?_
  refine rg_put (d := 15) (v := .d (.fl (.int .i64 y))) rfl (og rfl (op_move rfl rfl rfl)) ?_
  refine rg_put (d := 16) (v := .d (.fl (.bool ((decide (x < y)))))) rfl (og rfl (op_bin rfl rfl rfl (b_lss _ _ _ _) rfl)) ?_
  refine rg_done rfl ?_
  refine a_cond rfl (fun h1 => ?_) (fun h1 => ?_)
  · skip
    have h2 := t_dec h1
    refine a_rseq ?_
    refine rg_put (d := 4) (v := .d (.fl (.int .i64 (-1)))) rfl (og rfl (op_assign rfl rfl rfl)) ?_
    refine rg_done rfl ?_
    refine a_ret ?_
    show ∃ ds, ResL _ _ _ ds ∧ RV.of ds = _
    refine ⟨[.fl (.int .i64 (-1))], (.cons (.tmp rfl (.d _)) .nil), ?_⟩
    first
      | (have hu : ic x y = (-1) := by
          unfold ic; simp only [h1, Bool.true_or, Bool.false_or, Bool.or_true, Bool.or_false, Bool.not_true, Bool.not_false, cond_true, cond_false, Bool.true_and, Bool.false_and, Bool.and_true, Bool.and_false] <;> rfl
         rw [hu]; rfl)
      | (exfalso; omega)
  · skip
    have h3 := f_dec h1
    refine a_skip ?_
    show A _ _ _ _ _ _ _
    refine a_seq ?_
    refine a_rseq ?_
    refine rg_put (d := 17) (v := .d (.fl (.int .i64 x))) rfl (og rfl (op_move rfl rfl rfl)) ?_
    refine rg_put (d := 18) (v := .d (.fl (.int .i64 y))) rfl (og rfl (op_move rfl rfl rfl)) ?_
    refine rg_put (d := 19) (v := .d (.fl (.bool ((decide (y < x)))))) rfl (og rfl (op_bin rfl rfl rfl (b_gtr _ _ _ _) rfl)) ?_
    refine rg_done rfl ?_
    refine a_cond rfl (fun h4 => ?_) (fun h4 => ?_)
    · skip
      have h5 := t_dec h4
      refine a_rseq ?_
      refine rg_put (d := 4) (v := .d (.fl (.int .i64 1))) rfl (og rfl (op_assign rfl rfl rfl)) ?_
      refine rg_done rfl ?_
      refine a_ret ?_
      show ∃ ds, ResL _ _ _ ds ∧ RV.of ds = _
      refine ⟨[.fl (.int .i64 1)], (.cons (.tmp rfl (.d _)) .nil), ?_⟩
      first
        | (have hu : ic x y = 1 := by
            unfold ic; simp only [h1, h4, Bool.true_or, Bool.false_or, Bool.or_true, Bool.or_false, Bool.not_true, Bool.not_false, cond_true, cond_false, Bool.true_and, Bool.false_and, Bool.and_true, Bool.and_false] <;> rfl
           rw [hu]; rfl)
        | (exfalso; omega)
    · skip
      have h6 := f_dec h4
      refine a_skip ?_
      show A _ _ _ _ _ _ _
      refine a_rseq ?_
      refine rg_put (d := 4) (v := .d (.fl (.int .i64 0))) rfl (og rfl (op_assign rfl rfl rfl)) ?_
      refine rg_done rfl ?_
      refine a_ret ?_
      show ∃ ds, ResL _ _ _ ds ∧ RV.of ds = _
      refine ⟨[.fl (.int .i64 0)], (.cons (.tmp rfl (.d _)) .nil), ?_⟩
      first
        | (have hu : ic x y = 0 := by
            unfold ic; simp only [h1, h4, Bool.true_or, Bool.false_or, Bool.or_true, Bool.or_false, Bool.not_true, Bool.not_false, cond_true, cond_false, Bool.true_and, Bool.false_and, Bool.and_true, Bool.and_false] <;> rfl
           rw [hu]; rfl)
        | (exfalso; omega)
set_option maxHeartbeats 4000000 in
set_option maxRecDepth 100000 in
theorem icR0 (x y : Int) : Ctr Tryz.prog 109 [.fl (.int .i64 x), .fl (.int .i64 y)] (.d (.fl (.int .i64 (ic x y)))) := by
  refine ctr (n := 11) (rs := #[.tmp 4]) (L := [(0, .d (.fl (.int .i64 x))), (1, .d (.fl (.int .i64 y)))]) Tryz.func109 rfl rfl rfl rfl rfl (fun w0 U0 => ?_)
  refine a_rseq ?_
  refine rg_put (d := 4) (v := .d (.fl (.int .i64 0))) rfl (og rfl (op_assign rfl rfl rfl)) ?_
  refine rg_done rfl ?_
  refine a_seq ?_
  refine a_rseq ?_
  refine rg_put (d := 5) (v := .d (.fl (.int .i64 x))) rfl (og rfl (op_move rfl rfl rfl)) ?_
  refine rg_put (d := 6) (v := .d (.fl (.int .i64 y))) rfl (og rfl (op_move rfl rfl rfl)) ?_
  refine rg_put (d := 7) (v := .d (.fl (.bool ((decide (x < y)))))) rfl (og rfl (op_bin rfl rfl rfl (b_lss _ _ _ _) rfl)) ?_
  refine rg_done rfl ?_
  refine a_cond rfl (fun h1 => ?_) (fun h1 => ?_)
  · skip
    have h2 := t_dec h1
    refine a_rseq ?_
    refine rg_put (d := 4) (v := .d (.fl (.int .i64 (-1)))) rfl (og rfl (op_assign rfl rfl rfl)) ?_
    refine rg_done rfl ?_
    refine a_ret ?_
    show ∃ ds, ResL _ _ _ ds ∧ RV.of ds = _
    refine ⟨[.fl (.int .i64 (-1))], (.cons (.tmp rfl (.d _)) .nil), ?_⟩
    first
      | (have hu : ic x y = (-1) := by
          unfold ic; simp only [h1, Bool.true_or, Bool.false_or, Bool.or_true, Bool.or_false, Bool.not_true, Bool.not_false, cond_true, cond_false, Bool.true_and, Bool.false_and, Bool.and_true, Bool.and_false] <;> rfl
         rw [hu]; rfl)
      | (exfalso; omega)
  · skip
    have h3 := f_dec h1
    refine a_skip ?_
    show A _ _ _ _ _ _ _
    refine a_seq ?_
    refine a_rseq ?_
    refine rg_put (d := 8) (v := .d (.fl (.int .i64 x))) rfl (og rfl (op_move rfl rfl rfl)) ?_
    refine rg_put (d := 9) (v := .d (.fl (.int .i64 y))) rfl (og rfl (op_move rfl rfl rfl)) ?_
    refine rg_put (d := 10) (v := .d (.fl (.bool ((decide (y < x)))))) rfl (og rfl (op_bin rfl rfl rfl (b_gtr _ _ _ _) rfl)) ?_
    refine rg_done rfl ?_
    refine a_cond rfl (fun h4 => ?_) (fun h4 => ?_)
    · skip
      have h5 := t_dec h4
      refine a_rseq ?_
      refine rg_put (d := 4) (v := .d (.fl (.int .i64 1))) rfl (og rfl (op_assign rfl rfl rfl)) ?_
      refine rg_done rfl ?_
      refine a_ret ?_
      show ∃ ds, ResL _ _ _ ds ∧ RV.of ds = _
      refine ⟨[.fl (.int .i64 1)], (.cons (.tmp rfl (.d _)) .nil), ?_⟩
      first
        | (have hu : ic x y = 1 := by
            unfold ic; simp only [h1, h4, Bool.true_or, Bool.false_or, Bool.or_true, Bool.or_false, Bool.not_true, Bool.not_false, cond_true, cond_false, Bool.true_and, Bool.false_and, Bool.and_true, Bool.and_false] <;> rfl
           rw [hu]; rfl)
        | (exfalso; omega)
    · skip
      have h6 := f_dec h4
      refine a_skip ?_
      show A _ _ _ _ _ _ _
      refine a_rseq ?_
      refine rg_put (d := 4) (v := .d (.fl (.int .i64 0))) rfl (og rfl (op_assign rfl rfl rfl)) ?_
      refine rg_done rfl ?_
      refine a_ret ?_
      show ∃ ds, ResL _ _ _ ds ∧ RV.of ds = _
      refine ⟨[.fl (.int .i64 0)], (.cons (.tmp rfl (.d _)) .nil), ?_⟩
      first
        | (have hu : ic x y = 0 := by
            unfold ic; simp only [h1, h4, Bool.true_or, Bool.false_or, Bool.or_true, Bool.or_false, Bool.not_true, Bool.not_false, cond_true, cond_false, Bool.true_and, Bool.false_and, Bool.and_true, Bool.and_false] <;> rfl
           rw [hu]; rfl)
        | (exfalso; omega)
set_option maxHeartbeats 4000000 in
set_option maxRecDepth 100000 in
theorem scC (s u : ByteArray) : Ctr Tryz.prog 80 [.fl (.string s), .fl (.string u)] (.d (.fl (.int .i64 (sc s u)))) := by
  refine ctr (n := 20) (rs := #[.tmp 4]) (L := [(0, .d (.fl (.string s))), (1, .d (.fl (.string u)))]) Tryz.func80 rfl rfl rfl rfl rfl (fun w0 U0 => ?_)
  refine a_rseq ?_
  refine rg_put (d := 4) (v := .d (.fl (.int .i64 0))) rfl (og rfl (op_assign rfl rfl rfl)) ?_
  refine rg_done rfl ?_
  refine a_rseq ?_
  refine rg_put (d := 7) (v := .d (.fl (.string s))) rfl (og rfl (op_move rfl rfl rfl)) ?_
  refine rg_put (d := 8) (v := .d (.fl (.bool ((!(sEq s s)))))) rfl (og rfl (op_call rfl Tryz.func114 nm114 rfl (.cons rfl (.d _) .nil) (nanS s) rfl)) ?_
  refine rg_put (d := 5) (v := .d (.fl (.bool ((!(sEq s s)))))) rfl (og rfl (op_assign rfl rfl rfl)) ?_
  refine rg_done rfl ?_
  refine a_rseq ?_
  refine rg_put (d := 9) (v := .d (.fl (.string u))) rfl (og rfl (op_move rfl rfl rfl)) ?_
  refine rg_put (d := 10) (v := .d (.fl (.bool ((!(sEq u u)))))) rfl (og rfl (op_call rfl Tryz.func114 nm114 rfl (.cons rfl (.d _) .nil) (nanS u) rfl)) ?_
  refine rg_put (d := 6) (v := .d (.fl (.bool ((!(sEq u u)))))) rfl (og rfl (op_assign rfl rfl rfl)) ?_
  refine rg_done rfl ?_
  refine a_seq ?_
  refine a_rseq ?_
  refine rg_put (d := 11) (v := .d (.fl (.bool ((!(sEq s s)))))) rfl (og rfl (op_move rfl rfl rfl)) ?_
  refine rg_done rfl ?_
  refine a_condF rfl (not_f (eq_self_s _)) ?_
  refine a_skip ?_
  show A _ _ _ _ _ _ _
  refine a_seq ?_
  refine a_rseq ?_
  refine rg_put (d := 13) (v := .d (.fl (.bool ((!(sEq u u)))))) rfl (og rfl (op_move rfl rfl rfl)) ?_
  refine rg_done rfl ?_
  refine a_condF rfl (not_f (eq_self_s _)) ?_
  refine a_skip ?_
  show A _ _ _ _ _ _ _
  refine a_seq ?_
  refine a_rseq ?_
  refine rg_put (d := 14) (v := .d (.fl (.string s))) rfl (og rfl (op_move rfl rfl rfl)) ?_
  refine rg_put (d := 15) (v := .d (.fl (.string u))) rfl (og rfl (op_move rfl rfl rfl)) ?_
  refine rg_put (d := 16) (v := .d (.fl (.bool (sLt s u)))) rfl (og rfl (op_bin rfl rfl rfl (b_slt _ _ _) rfl)) ?_
  refine rg_done rfl ?_
  refine a_cond rfl (fun h1 => ?_) (fun h1 => ?_)
  · skip
    refine a_rseq ?_
    refine rg_put (d := 4) (v := .d (.fl (.int .i64 (-1)))) rfl (og rfl (op_assign rfl rfl rfl)) ?_
    refine rg_done rfl ?_
    refine a_ret ?_
    show ∃ ds, ResL _ _ _ ds ∧ RV.of ds = _
    refine ⟨[.fl (.int .i64 (-1))], (.cons (.tmp rfl (.d _)) .nil), ?_⟩
    rw [sc_lt h1]; rfl
  · skip
    refine a_skip ?_
    show A _ _ _ _ _ _ _
    refine a_seq ?_
    refine a_rseq ?_
    refine rg_put (d := 17) (v := .d (.fl (.string s))) rfl (og rfl (op_move rfl rfl rfl)) ?_
    refine rg_put (d := 18) (v := .d (.fl (.string u))) rfl (og rfl (op_move rfl rfl rfl)) ?_
    refine rg_put (d := 19) (v := .d (.fl (.bool ((!(sLt s u || sEq s u)))))) rfl (og rfl (op_bin rfl rfl rfl (b_sgt _ _ _) rfl)) ?_
    refine rg_done rfl ?_
    refine a_cond rfl (fun h2 => ?_) (fun h2 => ?_)
    · skip
      have h3 := t_not h2
      refine a_rseq ?_
      refine rg_put (d := 4) (v := .d (.fl (.int .i64 1))) rfl (og rfl (op_assign rfl rfl rfl)) ?_
      refine rg_done rfl ?_
      refine a_ret ?_
      show ∃ ds, ResL _ _ _ ds ∧ RV.of ds = _
      refine ⟨[.fl (.int .i64 1)], (.cons (.tmp rfl (.d _)) .nil), ?_⟩
      rw [sc_gt h1 h3]; rfl
    · skip
      have h4 := f_not h2
      refine a_skip ?_
      show A _ _ _ _ _ _ _
      refine a_rseq ?_
      refine rg_put (d := 4) (v := .d (.fl (.int .i64 0))) rfl (og rfl (op_assign rfl rfl rfl)) ?_
      refine rg_done rfl ?_
      refine a_ret ?_
      show ∃ ds, ResL _ _ _ ds ∧ RV.of ds = _
      refine ⟨[.fl (.int .i64 0)], (.cons (.tmp rfl (.d _)) .nil), ?_⟩
      rw [sc_eq h1 h4]; rfl
set_option maxHeartbeats 4000000 in
set_option maxRecDepth 100000 in
theorem befR (s u : ByteArray) (hs : s.size ≤ 80) (hz : u.size ≤ 80) : Ctr Tryz.prog 118 [.fl (.string s), .fl (.string u)] (.d (.fl (.bool (sLt s u)))) := by
  refine ctr (n := 37) (rs := #[.tmp 4]) (L := [(0, .d (.fl (.string s))), (1, .d (.fl (.string u)))]) Tryz.func118 rfl rfl rfl rfl rfl (fun w0 U0 => ?_)
  refine a_rseq ?_
  refine rg_put (d := 4) (v := .d (.fl (.bool false))) rfl (og rfl (op_assign rfl rfl rfl)) ?_
  refine rg_done rfl ?_
  refine a_seq ?_
  refine a_rseq ?_
  refine rg_put (d := 5) (v := .d (.fl (.int .i64 0))) rfl (og rfl (op_assign rfl rfl rfl)) ?_
  refine rg_done rfl ?_
  refine a_block ?_
  refine a_loop (ι := Nat) (fun k => SS [(0, .d (.fl (.string s))), (1, .d (.fl (.string u))), (5, .d (.fl (.int .i64 (k : Int))))] []) (fun k => k ≤ s.size ∧ k ≤ u.size ∧ ∀ q, q < k → bt s q = bt u q) (fun k => s.size - k) 0 (⟨by omega, by omega, fun q h => by omega⟩) (imp_forget rfl ⟨rfl, rfl, (by first | rfl | exact ci (by omega) | exact ci (by simp) | exact cd (by simp) | simp), trivial⟩ trivial) (fun k hok => ?_)
  obtain ⟨hk, hk2, hq⟩ := hok
  refine a_seq ?_
  refine a_rseq ?_
  refine rg_put (d := 6) (v := .d (.fl (.int .i64 (k : Int)))) rfl (og rfl (op_move rfl rfl rfl)) ?_
  refine rg_put (d := 7) (v := .d (.fl (.string s))) rfl (og rfl (op_move rfl rfl rfl)) ?_
  refine rg_put (d := 8) (v := .d (.fl (.int .i64 (s.size : Int)))) rfl (og rfl (op_len_str rfl Tryz.underlying9 rfl rfl)) ?_
  refine rg_put (d := 9) (v := .d (.fl (.bool ((decide ((k : Int) < (s.size : Int))))))) rfl (og rfl (op_bin rfl rfl rfl (b_lss _ _ _ _) rfl)) ?_
  refine rg_put (d := 10) (v := .d (.fl (.bool ((decide ((k : Int) < (s.size : Int))))))) rfl (og rfl (op_move rfl rfl rfl)) ?_
  rcases fot ((decide ((k : Int) < (s.size : Int)))) with h1 | h1
  · skip
    have h2 := f_dec h1
    refine rg_put (d := 11) (v := .d (.fl undef)) rfl (on rfl rfl rfl h1) ?_
    refine rg_put (d := 12) (v := .d (.fl undef)) rfl (on rfl rfl rfl h1) ?_
    refine rg_put (d := 13) (v := .d (.fl undef)) rfl (on rfl rfl rfl h1) ?_
    refine rg_put (d := 14) (v := .d (.fl undef)) rfl (on rfl rfl rfl h1) ?_
    refine rg_put (d := 15) (v := .d (.fl (.bool false))) rfl (og rfl (op_pick rfl rfl (by rw [h1]; rfl) rfl)) ?_
    refine rg_done rfl ?_
    refine a_condF rfl rfl ?_
    refine a_exit ?_
    show A _ _ _ _ _ _ _
    refine a_rseq ?_
    refine rg_put (d := 32) (v := .d (.fl (.string s))) rfl (og rfl (op_move rfl rfl rfl)) ?_
    refine rg_put (d := 33) (v := .d (.fl (.int .i64 (s.size : Int)))) rfl (og rfl (op_len_str rfl Tryz.underlying9 rfl rfl)) ?_
    refine rg_put (d := 34) (v := .d (.fl (.string u))) rfl (og rfl (op_move rfl rfl rfl)) ?_
    refine rg_put (d := 35) (v := .d (.fl (.int .i64 (u.size : Int)))) rfl (og rfl (op_len_str rfl Tryz.underlying9 rfl rfl)) ?_
    refine rg_put (d := 36) (v := .d (.fl (.bool ((decide ((s.size : Int) < (u.size : Int))))))) rfl (og rfl (op_bin rfl rfl rfl (b_lss _ _ _ _) rfl)) ?_
    refine rg_put (d := 4) (v := .d (.fl (.bool ((decide ((s.size : Int) < (u.size : Int))))))) rfl (og rfl (op_assign rfl rfl rfl)) ?_
    refine rg_done rfl ?_
    refine a_ret ?_
    show ∃ ds, ResL _ _ _ ds ∧ RV.of ds = _
    refine ⟨[.fl (.bool ((decide ((s.size : Int) < (u.size : Int)))))], (.cons (.tmp rfl (.d _)) .nil), ?_⟩
    rw [bef_end (k := k) (by omega) hq]; rfl
  · skip
    have h3 := t_dec h1
    refine rg_put (d := 11) (v := .d (.fl (.int .i64 (k : Int)))) rfl (oy rfl rfl rfl h1 (op_move rfl rfl rfl)) ?_
    refine rg_put (d := 12) (v := .d (.fl (.string u))) rfl (oy rfl rfl rfl h1 (op_move rfl rfl rfl)) ?_
    refine rg_put (d := 13) (v := .d (.fl (.int .i64 (u.size : Int)))) rfl (oy rfl rfl rfl h1 (op_len_str rfl Tryz.underlying9 rfl rfl)) ?_
    refine rg_put (d := 14) (v := .d (.fl (.bool ((decide ((k : Int) < (u.size : Int))))))) rfl (oy rfl rfl rfl h1 (op_bin rfl rfl rfl (b_lss _ _ _ _) rfl)) ?_
    refine rg_put (d := 15) (v := .d (.fl (.bool ((decide ((k : Int) < (u.size : Int))))))) rfl (og rfl (op_pick rfl rfl (by rw [h1]; rfl) rfl)) ?_
    refine rg_done rfl ?_
    refine a_cond rfl (fun h4 => ?_) (fun h4 => ?_)
    · skip
      have h5 := t_dec h4
      refine a_skip ?_
      show A _ _ _ _ _ _ _
      refine a_seq ?_
      refine a_block ?_
      refine a_dseq (by kernel_rfl) ?_
      refine dr_put (d := 18) (v := .d (.fl (.string s))) rfl (og rfl (op_move rfl rfl rfl)) ?_
      refine dr_put (d := 19) (v := .d (.fl (.int .i64 (k : Int)))) rfl (og rfl (op_move rfl rfl rfl)) ?_
      refine dr_put (d := 20) (v := .d (.fl (.int .u8 (((bt s k).toNat : Int))))) rfl (og rfl (op_strindex rfl Tryz.underlying9 rfl rfl (by omega) (byte_ix (by omega)) rfl)) ?_
      refine dr_put (d := 21) (v := .d (.fl (.string u))) rfl (og rfl (op_move rfl rfl rfl)) ?_
      refine dr_put (d := 22) (v := .d (.fl (.int .i64 (k : Int)))) rfl (og rfl (op_move rfl rfl rfl)) ?_
      refine dr_put (d := 23) (v := .d (.fl (.int .u8 (((bt u k).toNat : Int))))) rfl (og rfl (op_strindex rfl Tryz.underlying9 rfl rfl (by omega) (byte_ix (by omega)) rfl)) ?_
      refine dr_put (d := 24) (v := .d (.fl (.bool ((((bt s k).toNat : Int) != ((bt u k).toNat : Int)))))) rfl (og rfl (op_bin rfl rfl rfl (b_neq _ _ _ _) rfl)) ?_
      refine dr_done rfl (by kernel_rfl) (by kernel_rfl) ?_
      refine a_cond rfl (fun h6 => ?_) (fun h6 => ?_)
      · skip
        have h7 := t_bne h6
        refine a_dseq (by kernel_rfl) ?_
        refine dr_put (d := 25) (v := .d (.fl (.string s))) rfl (og rfl (op_move rfl rfl rfl)) ?_
        refine dr_put (d := 26) (v := .d (.fl (.int .i64 (k : Int)))) rfl (og rfl (op_move rfl rfl rfl)) ?_
        refine dr_put (d := 27) (v := .d (.fl (.int .u8 (((bt s k).toNat : Int))))) rfl (og rfl (op_strindex rfl Tryz.underlying9 rfl rfl (by omega) (byte_ix (by omega)) rfl)) ?_
        refine dr_put (d := 28) (v := .d (.fl (.string u))) rfl (og rfl (op_move rfl rfl rfl)) ?_
        refine dr_put (d := 29) (v := .d (.fl (.int .i64 (k : Int)))) rfl (og rfl (op_move rfl rfl rfl)) ?_
        refine dr_put (d := 30) (v := .d (.fl (.int .u8 (((bt u k).toNat : Int))))) rfl (og rfl (op_strindex rfl Tryz.underlying9 rfl rfl (by omega) (byte_ix (by omega)) rfl)) ?_
        refine dr_put (d := 31) (v := .d (.fl (.bool ((decide (((bt s k).toNat : Int) < ((bt u k).toNat : Int))))))) rfl (og rfl (op_bin rfl rfl rfl (b_lss _ _ _ _) rfl)) ?_
        refine dr_put (d := 4) (v := .d (.fl (.bool ((decide (((bt s k).toNat : Int) < ((bt u k).toNat : Int))))))) rfl (og rfl (op_assign rfl rfl rfl)) ?_
        refine dr_done rfl (by kernel_rfl) (by kernel_rfl) ?_
        refine a_ret ?_
        show ∃ ds, ResL _ _ _ ds ∧ RV.of ds = _
        refine ⟨[.fl (.bool ((decide (((bt s k).toNat : Int) < ((bt u k).toNat : Int)))))], (.cons (.tmp rfl (.d _)) .nil), ?_⟩
        have hne : bt s k ≠ bt u k := fun e => by have := t_bne h6; rw [e] at this; exact this rfl
        rw [bef_at (by omega) (by omega) hq hne]; rfl
      · skip
        have h8 := f_bne h6
        refine a_skip ?_
        show A _ _ _ _ _ _ _
        refine a_region ?_
        refine rg_put (d := 16) (v := .d (.fl (.int .i64 (k : Int)))) rfl (og rfl (op_move rfl rfl rfl)) ?_
        refine rg_put (d := 17) (v := .d (.fl (.int .i64 (((k : Int) + 1))))) rfl (og rfl (op_bin rfl rfl rfl (fun x y w => b_add64 _ _ _ x y w (by omega)) rfl)) ?_
        refine rg_put (d := 5) (v := .d (.fl (.int .i64 (((k : Int) + 1))))) rfl (og rfl (op_assign rfl rfl rfl)) ?_
        refine rg_done rfl ?_
        have hx : bt s k = bt u k := UInt8.toNat_inj.1 (by have := f_bne h6; omega)
        show ∃ i, _ ∧ _ ∧ Imp _ _ _ _ _
        refine ⟨k + 1, ⟨by omega, by omega, fun q h => (Nat.lt_succ_iff_lt_or_eq.1 h).elim (hq q) (fun e => by rw [e]; exact hx)⟩, by omega, imp_forget rfl ⟨rfl, rfl, (by first | rfl | exact ci (by omega) | exact ci (by simp) | exact cd (by simp) | simp), trivial⟩ trivial⟩
    · skip
      have h9 := f_dec h4
      refine a_exit ?_
      show A _ _ _ _ _ _ _
      refine a_rseq ?_
      refine rg_put (d := 32) (v := .d (.fl (.string s))) rfl (og rfl (op_move rfl rfl rfl)) ?_
      refine rg_put (d := 33) (v := .d (.fl (.int .i64 (s.size : Int)))) rfl (og rfl (op_len_str rfl Tryz.underlying9 rfl rfl)) ?_
      refine rg_put (d := 34) (v := .d (.fl (.string u))) rfl (og rfl (op_move rfl rfl rfl)) ?_
      refine rg_put (d := 35) (v := .d (.fl (.int .i64 (u.size : Int)))) rfl (og rfl (op_len_str rfl Tryz.underlying9 rfl rfl)) ?_
      refine rg_put (d := 36) (v := .d (.fl (.bool ((decide ((s.size : Int) < (u.size : Int))))))) rfl (og rfl (op_bin rfl rfl rfl (b_lss _ _ _ _) rfl)) ?_
      refine rg_put (d := 4) (v := .d (.fl (.bool ((decide ((s.size : Int) < (u.size : Int))))))) rfl (og rfl (op_assign rfl rfl rfl)) ?_
      refine rg_done rfl ?_
      refine a_ret ?_
      show ∃ ds, ResL _ _ _ ds ∧ RV.of ds = _
      refine ⟨[.fl (.bool ((decide ((s.size : Int) < (u.size : Int)))))], (.cons (.tmp rfl (.d _)) .nil), ?_⟩
      rw [bef_end (k := k) (by omega) hq]; rfl
set_option maxHeartbeats 4000000 in
set_option maxRecDepth 100000 in
theorem scR0 (s u : ByteArray) (hs : s.size ≤ 80) (hz : u.size ≤ 80) : Ctr Tryz.prog 108 [.fl (.string s), .fl (.string u)] (.d (.fl (.int .i64 (sc s u)))) := by
  refine ctr (n := 11) (rs := #[.tmp 4]) (L := [(0, .d (.fl (.string s))), (1, .d (.fl (.string u)))]) Tryz.func108 rfl rfl rfl rfl rfl (fun w0 U0 => ?_)
  refine a_rseq ?_
  refine rg_put (d := 4) (v := .d (.fl (.int .i64 0))) rfl (og rfl (op_assign rfl rfl rfl)) ?_
  refine rg_done rfl ?_
  refine a_seq ?_
  refine a_rseq ?_
  refine rg_put (d := 5) (v := .d (.fl (.string s))) rfl (og rfl (op_move rfl rfl rfl)) ?_
  refine rg_put (d := 6) (v := .d (.fl (.string u))) rfl (og rfl (op_move rfl rfl rfl)) ?_
  refine rg_put (d := 7) (v := .d (.fl (.bool (sEq s u)))) rfl (og rfl (op_bin rfl rfl rfl (b_seq _ _ _) rfl)) ?_
  refine rg_done rfl ?_
  refine a_cond rfl (fun h1 => ?_) (fun h1 => ?_)
  · skip
    refine a_rseq ?_
    refine rg_put (d := 4) (v := .d (.fl (.int .i64 0))) rfl (og rfl (op_assign rfl rfl rfl)) ?_
    refine rg_done rfl ?_
    refine a_ret ?_
    show ∃ ds, ResL _ _ _ ds ∧ RV.of ds = _
    refine ⟨[.fl (.int .i64 0)], (.cons (.tmp rfl (.d _)) .nil), ?_⟩
    first
      | (have hu : sc s u = 0 := by
          unfold sc; simp only [h1, Bool.true_or, Bool.false_or, Bool.or_true, Bool.or_false, Bool.not_true, Bool.not_false, cond_true, cond_false, Bool.true_and, Bool.false_and, Bool.and_true, Bool.and_false] <;> rfl
         rw [hu]; rfl)
      | (exfalso; omega)
  · skip
    refine a_skip ?_
    show A _ _ _ _ _ _ _
    refine a_seq ?_
    refine a_rseq ?_
    refine rg_put (d := 8) (v := .d (.fl (.string s))) rfl (og rfl (op_move rfl rfl rfl)) ?_
    refine rg_put (d := 9) (v := .d (.fl (.string u))) rfl (og rfl (op_move rfl rfl rfl)) ?_
    refine rg_put (d := 10) (v := .d (.fl (.bool (sLt s u)))) rfl (og rfl (op_call rfl Tryz.func118 nm118 rfl (.cons rfl (.d _) (.cons rfl (.d _) .nil)) (befR s u (by omega) (by omega)) rfl)) ?_
    refine rg_done rfl ?_
    refine a_cond rfl (fun h2 => ?_) (fun h2 => ?_)
    · skip
      refine a_rseq ?_
      refine rg_put (d := 4) (v := .d (.fl (.int .i64 (-1)))) rfl (og rfl (op_assign rfl rfl rfl)) ?_
      refine rg_done rfl ?_
      refine a_ret ?_
      show ∃ ds, ResL _ _ _ ds ∧ RV.of ds = _
      refine ⟨[.fl (.int .i64 (-1))], (.cons (.tmp rfl (.d _)) .nil), ?_⟩
      first
        | (have hu : sc s u = (-1) := by
            unfold sc; simp only [h1, h2, Bool.true_or, Bool.false_or, Bool.or_true, Bool.or_false, Bool.not_true, Bool.not_false, cond_true, cond_false, Bool.true_and, Bool.false_and, Bool.and_true, Bool.and_false] <;> rfl
           rw [hu]; rfl)
        | (exfalso; omega)
    · skip
      refine a_skip ?_
      show A _ _ _ _ _ _ _
      refine a_rseq ?_
      refine rg_put (d := 4) (v := .d (.fl (.int .i64 1))) rfl (og rfl (op_assign rfl rfl rfl)) ?_
      refine rg_done rfl ?_
      refine a_ret ?_
      show ∃ ds, ResL _ _ _ ds ∧ RV.of ds = _
      refine ⟨[.fl (.int .i64 1)], (.cons (.tmp rfl (.d _)) .nil), ?_⟩
      first
        | (have hu : sc s u = 1 := by
            unfold sc; simp only [h1, h2, Bool.true_or, Bool.false_or, Bool.or_true, Bool.or_false, Bool.not_true, Bool.not_false, cond_true, cond_false, Bool.true_and, Bool.false_and, Bool.and_true, Bool.and_false] <;> rfl
           rw [hu]; rfl)
        | (exfalso; omega)
set_option maxHeartbeats 4000000 in
set_option maxRecDepth 100000 in
theorem orC (l : List Int) (hl : l.length ≤ 1000) : Ctr Tryz.prog 79 [.sl 1 (List.map (rI .i64) l)] (.d (.fl (.int .i64 (fz l)))) := by
  refine ctr (n := 18) (rs := #[.tmp 2]) (L := [(0, .d (.sl 1 (List.map (rI .i64) l)))]) Tryz.func79 rfl rfl rfl rfl rfl (fun w0 U0 => ?_)
  refine a_rseq ?_
  refine rg_put (d := 2) (v := .d (.fl (.int .i64 0))) rfl (og rfl (op_assign rfl rfl rfl)) ?_
  refine rg_done rfl ?_
  refine a_rseq ?_
  refine rg_put (d := 3) (v := .d (.fl (.int .i64 0))) rfl (og rfl (op_assign rfl rfl rfl)) ?_
  refine rg_done rfl ?_
  refine a_seq ?_
  refine a_rseq ?_
  refine rg_put (d := 6) (v := .d (.sl 1 (List.map (rI .i64) l))) rfl (og rfl (op_move rfl rfl rfl)) ?_
  refine rg_put (d := 7) (v := .d (.fl (.int .i64 (l.length : Int)))) rfl (og rfl (s_len rfl Tryz.underlying139 rfl rfl)) ?_
  refine rg_put (d := 8) (v := .d (.fl (.int .i64 0))) rfl (og rfl (op_move rfl rfl rfl)) ?_
  refine rg_done rfl ?_
  refine a_block ?_
  refine a_loop (ι := Nat) (fun k => SS [(0, .d (.sl 1 (List.map (rI .i64) l))), (3, .d (.fl (.int .i64 0))), (6, .d (.sl 1 (List.map (rI .i64) l))), (7, .d (.fl (.int .i64 (l.length : Int)))), (8, .d (.fl (.int .i64 (k : Int))))] []) (fun k => k ≤ l.length ∧ ∀ q, q < k → ix l q = 0) (fun k => l.length - k) 0 (⟨by omega, fun q h => by omega⟩) (imp_forget rfl ⟨rfl, rfl, rfl, rfl, (by first | rfl | exact ci (by omega) | exact ci (by simp) | exact cd (by simp) | simp), trivial⟩ trivial) (fun k hok => ?_)
  obtain ⟨hk, hq⟩ := hok
  refine a_rseq ?_
  refine rg_put (d := 9) (v := .d (.fl (.bool ((decide ((k : Int) < (l.length : Int))))))) rfl (og rfl (op_bin rfl rfl rfl (b_lss _ _ _ _) rfl)) ?_
  refine rg_done rfl ?_
  refine a_seq ?_
  refine a_cond rfl (fun h1 => ?_) (fun h1 => ?_)
  · skip
    have h2 := t_dec h1
    refine a_skip ?_
    show A _ _ _ _ _ _ _
    refine a_seq ?_
    refine a_block ?_
    refine a_rseq ?_
    refine rg_put (d := 10) (v := .el ((rI .i64 (ix l k)))) rfl (og rfl (s_index rfl Tryz.underlying139 ti3 rfl rfl (by omega) (row_at (by omega)) rfl)) ?_
    refine rg_put (d := 11) (v := .d (.fl (.int .i64 (ix l k)))) rfl (og rfl (op_load_el rfl Tryz.underlying3 rfl rfl rfl rfl)) ?_
    refine rg_put (d := 5) (v := .d (.fl (.int .i64 (ix l k)))) rfl (og rfl (op_assign rfl rfl rfl)) ?_
    refine rg_done rfl ?_
    refine a_rseq ?_
    refine rg_put (d := 12) (v := .d (.fl (.int .i64 (ix l k)))) rfl (og rfl (op_move rfl rfl rfl)) ?_
    refine rg_put (d := 13) (v := .d (.fl (.int .i64 0))) rfl (og rfl (op_move rfl rfl rfl)) ?_
    refine rg_put (d := 14) (v := .d (.fl (.bool (((ix l k) != 0))))) rfl (og rfl (op_bin rfl rfl rfl (b_neq _ _ _ _) rfl)) ?_
    refine rg_done rfl ?_
    refine a_cond rfl (fun h3 => ?_) (fun h3 => ?_)
    · skip
      have h4 := t_bne h3
      refine a_rseq ?_
      refine rg_put (d := 15) (v := .d (.fl (.int .i64 (ix l k)))) rfl (og rfl (op_move rfl rfl rfl)) ?_
      refine rg_put (d := 2) (v := .d (.fl (.int .i64 (ix l k)))) rfl (og rfl (op_assign rfl rfl rfl)) ?_
      refine rg_done rfl ?_
      refine a_ret ?_
      show ∃ ds, ResL _ _ _ ds ∧ RV.of ds = _
      refine ⟨[.fl (.int .i64 (ix l k))], (.cons (.tmp rfl (.d _)) .nil), ?_⟩
      rw [fz_at (by omega) hq (t_bne h3)]; rfl
    · skip
      have h5 := f_bne h3
      refine a_skip ?_
      show A _ _ _ _ _ _ _
      refine a_region ?_
      refine rg_put (d := 16) (v := .d (.fl (.int .i64 (((k : Int) + 1))))) rfl (og rfl (op_bin rfl rfl rfl (fun x y w => b_add64 _ _ _ x y w (by omega)) rfl)) ?_
      refine rg_put (d := 8) (v := .d (.fl (.int .i64 (((k : Int) + 1))))) rfl (og rfl (op_move rfl rfl rfl)) ?_
      refine rg_done rfl ?_
      have hx : ix l k = 0 := f_bne h3
      show ∃ i, _ ∧ _ ∧ Imp _ _ _ _ _
      refine ⟨k + 1, ⟨by omega, fun q h => (Nat.lt_succ_iff_lt_or_eq.1 h).elim (hq q) (fun e => by rw [e]; exact hx)⟩, by omega, imp_forget rfl ⟨rfl, rfl, rfl, rfl, (by first | rfl | exact ci (by omega) | exact ci (by simp) | exact cd (by simp) | simp), trivial⟩ trivial⟩
  · skip
    have h6 := f_dec h1
    refine a_exit ?_
    show A _ _ _ _ _ _ _
    refine a_rseq ?_
    refine rg_put (d := 17) (v := .d (.fl (.int .i64 0))) rfl (og rfl (op_move rfl rfl rfl)) ?_
    refine rg_put (d := 2) (v := .d (.fl (.int .i64 0))) rfl (og rfl (op_assign rfl rfl rfl)) ?_
    refine rg_done rfl ?_
    refine a_ret ?_
    show ∃ ds, ResL _ _ _ ds ∧ RV.of ds = _
    refine ⟨[.fl (.int .i64 0)], (.cons (.tmp rfl (.d _)) .nil), ?_⟩
    rw [fz_no (fun q h => hq q (by omega))]; rfl
theorem sEq_comm' (a b : ByteArray) : sEq a b = sEq b a := by
  show decide (a = b) = decide (b = a)
  by_cases h : a = b
  · subst h; rfl
  · rw [decide_eq_false h, decide_eq_false (fun e => h e.symm)]
theorem take_ix' {α : Type} [Inhabited α] {l : List α} {k j : Nat} (h : j < k) : ix (l.take k) j = ix l j := by
  unfold ix; rw [List.getD_eq_getElem?_getD, List.getD_eq_getElem?_getD, List.getElem?_take_of_lt h]
def dupP (l : List Pnt) (s : ByteArray) : Bool := l.any fun x => sEq x.name s
def dupL (l : List Lnk) (a b : ByteArray) : Bool := l.any fun x => sEq x.fr a && sEq x.to b
def setP (l : List Pnt) : List (Value × DV) := l.map fun x => (Value.string x.name, DV.fl (.bool true))
def setL (l : List Lnk) : List (Value × DV) := l.map fun x => (Value.agg ([.string x.fr, .string x.to] : List Value).toArray, DV.fl (.bool true))
theorem setP_take {l : List Pnt} {k : Nat} (h : k < l.length) : setP (l.take k) ++ [(Value.string (ix l k).name, DV.fl (.bool true))] = setP (l.take (k + 1)) := by unfold setP; rw [take_ix h, List.map_append]; rfl
theorem setL_take {l : List Lnk} {k : Nat} (h : k < l.length) : setL (l.take k) ++ [(Value.agg ([.string (ix l k).fr, .string (ix l k).to] : List Value).toArray, DV.fl (.bool true))] = setL (l.take (k + 1)) := by unfold setL; rw [take_ix h, List.map_append]; rfl
theorem okL (l : List Lnk) : ∀ x ∈ setL l, okK153 x.1 := by
  intro x hx
  obtain ⟨y, _, rfl⟩ := List.mem_map.1 hx
  exact ⟨_, _, rfl⟩
theorem mfindL (a b : ByteArray) : ∀ l : List Lnk, mfindK sameK153 (.agg ([.string a, .string b] : List Value).toArray) (setL l) = if dupL l a b = true then some (.fl (.bool true)) else none
  | [] => rfl
  | x :: l => by
    have ih := mfindL a b l
    show (bif (sEq a x.fr && sEq b x.to) then _ else mfindK sameK153 _ (setL l)) = if ((sEq x.fr a && sEq x.to b) || dupL l a b) = true then _ else _
    rw [ih, sEq_comm' a, sEq_comm' b]
    cases (sEq x.fr a && sEq x.to b) <;> simp
noncomputable def pt1 (l : List Pnt) (k : Nat) : Int := bif !(Nm.nmB (ix l k).name) then 6 else bif dupP (l.take k) (ix l k).name then 9 else bif (decide ((ix l k).kind < 1) || decide (4 < (ix l k).kind)) then 1 else bif (!(sEq (ix l k).sys ⟨#[]⟩) && !(Nm.nmB (ix l k).sys)) then 6 else 0
noncomputable def ptE (l : List Pnt) : Int := fe (pt1 l) 0 l.length
noncomputable def lk1 (p : List Pnt) (l : List Lnk) (k : Nat) : Int := bif ((!(dupP p (ix l k).fr) || !(dupP p (ix l k).to)) || sEq (ix l k).fr (ix l k).to) then 16 else bif dupL (l.take k) (ix l k).fr (ix l k).to then 9 else bif ((decide ((ix l k).lo < 1) || decide ((ix l k).hi < (ix l k).lo)) || decide (2147483648 < (ix l k).hi)) then 12 else 0
noncomputable def lkE (p : List Pnt) (l : List Lnk) : Int := fe (lk1 p l) 0 l.length
noncomputable def gck (n : Nwk) : Int := bif (decide (64 < (n.pts.length : Int)) || decide (128 < (n.lks.length : Int))) then 3 else bif ptE n.pts != 0 then ptE n.pts else lkE n.pts n.lks
theorem gck_l {n : Nwk} (h : (decide (64 < (n.pts.length : Int)) || decide (128 < (n.lks.length : Int))) = true) : gck n = 3 := by unfold gck; rw [h]; rfl
theorem gck_p {n : Nwk} {c : Int} (h : (decide (64 < (n.pts.length : Int)) || decide (128 < (n.lks.length : Int))) = false) (hp : ptE n.pts = c) (hc : c ≠ 0) : gck n = c := by
  unfold gck; rw [h, hp]; show (bif c != 0 then c else _) = c; rw [bne_iff_ne.2 hc]; rfl
theorem gck_k {n : Nwk} (h : (decide (64 < (n.pts.length : Int)) || decide (128 < (n.lks.length : Int))) = false) (hp : ptE n.pts = 0) : gck n = lkE n.pts n.lks := by
  unfold gck; rw [h, hp]; rfl
def plc (l : List Pnt) (n : Nat) (s : ByteArray) : Int := match (l.take n).findIdx? (fun x => sEq x.name s) with
  | some i => (i : Int)
  | none => -1
theorem plc_no {l : List Pnt} {n k : Nat} {s : ByteArray} (h : n ≤ k ∨ l.length ≤ k) (hq : ∀ q, q < k → sEq (ix l q).name s = false) : plc l n s = -1 := by
  unfold plc
  rw [List.findIdx?_eq_none_iff.2]
  intro x hx
  obtain ⟨j, hj, rfl⟩ := mem_ix hx
  rw [List.length_take] at hj
  rw [take_ix' (by omega)]
  exact hq j (by omega)
theorem plc_at {l : List Pnt} {n k : Nat} {s : ByteArray} (h1 : k < n) (h2 : k < l.length) (hq : ∀ q, q < k → sEq (ix l q).name s = false) (hp : sEq (ix l k).name s = true) : plc l n s = k := by
  unfold plc
  rw [show (l.take n).findIdx? (fun x => sEq x.name s) = some k from ?_]
  rw [List.findIdx?_eq_some_iff_getElem]
  refine ⟨by rw [List.length_take]; omega, ?_, fun j hj => ?_⟩
  · rw [ix_eq, take_ix' h1]; exact hp
  · rw [ix_eq, take_ix' (by omega), hq j hj]; simp
theorem plc_ge (l : List Pnt) (n : Nat) (s : ByteArray) : decide (0 ≤ plc l n s) = dupP (l.take n) s := by
  unfold plc dupP
  rw [← List.findIdx?_isSome (p := fun x : Pnt => sEq x.name s)]
  cases (l.take n).findIdx? (fun x => sEq x.name s) with
  | none => rfl
  | some i => simp
theorem plc_64 {l : List Pnt} {s : ByteArray} (h : l.length ≤ 64) : dupP l s = !(decide (plc l 64 s < 0)) := by
  have := plc_ge l 64 s
  rw [List.take_of_length_le h] at this
  rw [← this]
  by_cases h : 0 ≤ plc l 64 s
  · rw [decide_eq_true h, decide_eq_false (by omega)]; rfl
  · rw [decide_eq_false h, decide_eq_true (by omega)]; rfl
theorem dupL_no {l : List Lnk} {k : Nat} {a b : ByteArray} (hk : k ≤ l.length) (hq : ∀ q, q < k → (sEq (ix l q).fr a && sEq (ix l q).to b) = false) : dupL (l.take k) a b = false := by
  unfold dupL
  refine any_no (fun j hj => ?_)
  rw [List.length_take] at hj
  rw [take_ix' (by omega)]
  exact hq j (by omega)
theorem dupL_yes {l : List Lnk} {k j : Nat} {a b : ByteArray} (h : k < l.length) (hj : j < k) (h1 : sEq (ix l j).fr a = true) (h2 : sEq (ix l j).to b = true) : dupL (l.take k) a b = true := by
  unfold dupL
  refine any_at (k := j) (by rw [List.length_take]; omega) ?_
  rw [take_ix' hj, h1, h2]; rfl
theorem nmC (s : ByteArray) : Ctr Tryz.prog 65 [.fl (.string s)] (.d (.fl (.bool (Nm.nmB s)))) := ctr_flat [.string s] (fun w => Nw.name14 s w)
theorem nmR (s : ByteArray) : Ctr Tryz.prog 70 [.fl (.string s)] (.d (.fl (.bool (Nm.nmB s)))) := ctr_flat [.string s] (fun w => Nw.name15 s w)

set_option maxHeartbeats 4000000 in
set_option maxRecDepth 100000 in
theorem place_c (l : List Pnt) (n : Nat) (s : ByteArray) (hl : l.length ≤ 1000000) (hn : n ≤ 1000000) : Ctr Tryz.prog 68 [.sl 3 (List.map ePnt l), .fl (.int .i64 (n : Int)), .fl (.string s)] (.d (.fl (.int .i64 (plc l n s)))) := by
  refine ctr (n := 27) (rs := #[.tmp 6]) (L := [(0, .d (.sl 3 (List.map ePnt l))), (1, .d (.fl (.int .i64 (n : Int)))), (2, .d (.fl (.string s)))]) Tryz.func68 rfl rfl rfl rfl rfl (fun w0 U0 => ?_)
  refine a_rseq ?_
  refine rg_put (d := 6) (v := .d (.fl (.int .i64 0))) rfl (og rfl (op_assign rfl rfl rfl)) ?_
  refine rg_done rfl ?_
  refine a_seq ?_
  refine a_rseq ?_
  refine rg_put (d := 7) (v := .d (.fl (.int .i64 0))) rfl (og rfl (op_assign rfl rfl rfl)) ?_
  refine rg_done rfl ?_
  refine a_block ?_
  refine a_loop (ι := Nat) (fun k => SS [(0, .d (.sl 3 (List.map ePnt l))), (1, .d (.fl (.int .i64 (n : Int)))), (2, .d (.fl (.string s))), (7, .d (.fl (.int .i64 (k : Int))))] []) (fun k => k ≤ l.length ∧ ∀ q, q < k → (sEq (ix l q).name s) = false) (fun k => l.length - k) 0 (⟨by omega, fun q h => by omega⟩) (imp_forget rfl ⟨rfl, rfl, rfl, (by first | rfl | exact ci (by omega) | exact ci (by simp) | exact cd (by simp) | simp), trivial⟩ trivial) (fun k hok => ?_)
  obtain ⟨hkk, hq⟩ := hok
  refine a_seq ?_
  refine a_rseq ?_
  refine rg_put (d := 8) (v := .d (.fl (.int .i64 (k : Int)))) rfl (og rfl (op_move rfl rfl rfl)) ?_
  refine rg_put (d := 9) (v := .d (.fl (.int .i64 (n : Int)))) rfl (og rfl (op_move rfl rfl rfl)) ?_
  refine rg_put (d := 10) (v := .d (.fl (.bool ((decide ((k : Int) < (n : Int))))))) rfl (og rfl (op_bin rfl rfl rfl (b_lss _ _ _ _) rfl)) ?_
  refine rg_put (d := 11) (v := .d (.fl (.bool ((decide ((k : Int) < (n : Int))))))) rfl (og rfl (op_move rfl rfl rfl)) ?_
  rcases fot ((decide ((k : Int) < (n : Int)))) with h1 | h1
  · skip
    have h2 := f_dec h1
    refine rg_put (d := 12) (v := .d (.fl undef)) rfl (on rfl rfl rfl h1) ?_
    refine rg_put (d := 13) (v := .d (.fl undef)) rfl (on rfl rfl rfl h1) ?_
    refine rg_put (d := 14) (v := .d (.fl undef)) rfl (on rfl rfl rfl h1) ?_
    refine rg_put (d := 15) (v := .d (.fl undef)) rfl (on rfl rfl rfl h1) ?_
    refine rg_put (d := 16) (v := .d (.fl (.bool false))) rfl (og rfl (op_pick rfl rfl (by rw [h1]; rfl) rfl)) ?_
    refine rg_done rfl ?_
    refine a_condF rfl rfl ?_
    refine a_exit ?_
    show A _ _ _ _ _ _ _
    refine a_rseq ?_
    refine rg_put (d := 6) (v := .d (.fl (.int .i64 (-1)))) rfl (og rfl (op_assign rfl rfl rfl)) ?_
    refine rg_done rfl ?_
    refine a_ret ?_
    show ∃ ds, ResL _ _ _ ds ∧ RV.of ds = _
    refine ⟨[.fl (.int .i64 (-1))], (.cons (.tmp rfl (.d _)) .nil), ?_⟩
    rw [plc_no (k := k) (by omega) (fun q h => hq q (by omega))]; rfl
  · skip
    have h3 := t_dec h1
    refine rg_put (d := 12) (v := .d (.fl (.int .i64 (k : Int)))) rfl (oy rfl rfl rfl h1 (op_move rfl rfl rfl)) ?_
    refine rg_put (d := 13) (v := .d (.sl 3 (List.map ePnt l))) rfl (oy rfl rfl rfl h1 (op_move rfl rfl rfl)) ?_
    refine rg_put (d := 14) (v := .d (.fl (.int .i64 (l.length : Int)))) rfl (oy rfl rfl rfl h1 (s_len rfl Tryz.underlying25 rfl rfl)) ?_
    refine rg_put (d := 15) (v := .d (.fl (.bool ((decide ((k : Int) < (l.length : Int))))))) rfl (oy rfl rfl rfl h1 (op_bin rfl rfl rfl (b_lss _ _ _ _) rfl)) ?_
    refine rg_put (d := 16) (v := .d (.fl (.bool ((decide ((k : Int) < (l.length : Int))))))) rfl (og rfl (op_pick rfl rfl (by rw [h1]; rfl) rfl)) ?_
    refine rg_done rfl ?_
    refine a_cond rfl (fun h4 => ?_) (fun h4 => ?_)
    · skip
      have h5 := t_dec h4
      refine a_skip ?_
      show A _ _ _ _ _ _ _
      refine a_seq ?_
      refine a_block ?_
      refine a_rseq ?_
      refine rg_put (d := 19) (v := .d (.sl 3 (List.map ePnt l))) rfl (og rfl (op_move rfl rfl rfl)) ?_
      refine rg_put (d := 20) (v := .d (.fl (.int .i64 (k : Int)))) rfl (og rfl (op_move rfl rfl rfl)) ?_
      refine rg_put (d := 21) (v := .el ((ePnt (ix l k)))) rfl (og rfl (s_index rfl Tryz.underlying25 ti29 rfl rfl (by omega) (row_at (by omega)) rfl)) ?_
      refine rg_put (d := 22) (v := .el ((List.drop 0 ((ePnt (ix l k)))))) rfl (og rfl (of_eff (s_field_el rfl Tryz.underlying29 rfl ti9 rfl rfl rfl) rfl)) ?_
      refine rg_put (d := 23) (v := .d (.fl (.string ((ix l k).name)))) rfl (og rfl (op_load_el rfl Tryz.underlying9 rfl rfl rfl rfl)) ?_
      refine rg_put (d := 24) (v := .d (.fl (.string s))) rfl (og rfl (op_move rfl rfl rfl)) ?_
      refine rg_put (d := 25) (v := .d (.fl (.bool ((sEq ((ix l k).name) s))))) rfl (og rfl (op_bin rfl rfl rfl (b_seq _ _ _) rfl)) ?_
      refine rg_done rfl ?_
      refine a_cond rfl (fun h6 => ?_) (fun h6 => ?_)
      · skip
        refine a_rseq ?_
        refine rg_put (d := 26) (v := .d (.fl (.int .i64 (k : Int)))) rfl (og rfl (op_move rfl rfl rfl)) ?_
        refine rg_put (d := 6) (v := .d (.fl (.int .i64 (k : Int)))) rfl (og rfl (op_assign rfl rfl rfl)) ?_
        refine rg_done rfl ?_
        refine a_ret ?_
        show ∃ ds, ResL _ _ _ ds ∧ RV.of ds = _
        refine ⟨[.fl (.int .i64 (k : Int))], (.cons (.tmp rfl (.d _)) .nil), ?_⟩
        rw [plc_at (by omega) (by omega) hq h6]; rfl
      · skip
        refine a_skip ?_
        show A _ _ _ _ _ _ _
        refine a_region ?_
        refine rg_put (d := 17) (v := .d (.fl (.int .i64 (k : Int)))) rfl (og rfl (op_move rfl rfl rfl)) ?_
        refine rg_put (d := 18) (v := .d (.fl (.int .i64 (((k : Int) + 1))))) rfl (og rfl (op_bin rfl rfl rfl (fun x y w => b_add64 _ _ _ x y w (by omega)) rfl)) ?_
        refine rg_put (d := 7) (v := .d (.fl (.int .i64 (((k : Int) + 1))))) rfl (og rfl (op_assign rfl rfl rfl)) ?_
        refine rg_done rfl ?_
        have hx : (sEq (ix l k).name s) = false := h6
        show ∃ i, _ ∧ _ ∧ Imp _ _ _ _ _
        refine ⟨k + 1, ⟨by omega, fun q h => (Nat.lt_succ_iff_lt_or_eq.1 h).elim (hq q) (fun e => by rw [e]; exact hx)⟩, by omega, imp_forget rfl ⟨rfl, rfl, rfl, (by first | rfl | exact ci (by omega) | exact ci (by simp) | exact cd (by simp) | simp), trivial⟩ trivial⟩
    · skip
      have h7 := f_dec h4
      refine a_exit ?_
      show A _ _ _ _ _ _ _
      refine a_rseq ?_
      refine rg_put (d := 6) (v := .d (.fl (.int .i64 (-1)))) rfl (og rfl (op_assign rfl rfl rfl)) ?_
      refine rg_done rfl ?_
      refine a_ret ?_
      show ∃ ds, ResL _ _ _ ds ∧ RV.of ds = _
      refine ⟨[.fl (.int .i64 (-1))], (.cons (.tmp rfl (.d _)) .nil), ?_⟩
      rw [plc_no (k := k) (by omega) (fun q h => hq q (by omega))]; rfl
set_option maxHeartbeats 4000000 in
set_option maxRecDepth 100000 in
theorem gck_c (n : Nwk) : Ctr Tryz.prog 62 [.ag (eNwk n)] (.d (.fl (.int .i64 (gck n)))) := by
  refine ctr (n := 117) (rs := #[.tmp 2]) (L := [(0, .d (.ag (eNwk n)))]) Tryz.func62 rfl rfl rfl rfl rfl (fun w0 U0 => ?_)
  refine a_rseq ?_
  refine rg_nam (d := 1) (v := .pt 101 0) (m := 101) (nw := [(101, .bx 32 (eNwk n))]) rfl (og rfl (of_eff (op_box 101 rfl rfl rfl rfl) rfl)) rfl ?_
  refine rg_put (d := 2) (v := .d (.fl (.int .i64 0))) rfl (og rfl (op_assign rfl rfl rfl)) ?_
  refine rg_done rfl ?_
  refine a_seq ?_
  refine a_rseq ?_
  refine rg_put (d := 10) (v := .pt 101 0) rfl (og rfl (of_eff (s_field_pt rfl Tryz.underlying32 rfl ti25 rfl rfl rfl) rfl)) ?_
  refine rg_put (d := 11) (v := .d (.sl 3 (List.map ePnt n.pts))) rfl (og rfl (op_load_pt rfl Tryz.underlying25 rfl rfl rfl rfl rfl)) ?_
  refine rg_put (d := 12) (v := .d (.fl (.int .i64 (n.pts.length : Int)))) rfl (og rfl (s_len rfl Tryz.underlying25 rfl rfl)) ?_
  refine rg_put (d := 13) (v := .d (.fl (.bool ((decide (64 < (n.pts.length : Int))))))) rfl (og rfl (op_bin rfl rfl rfl (b_gtr _ _ _ _) rfl)) ?_
  refine rg_put (d := 14) (v := .d (.fl (.bool ((decide (64 < (n.pts.length : Int))))))) rfl (og rfl (op_move rfl rfl rfl)) ?_
  rcases fot ((decide (64 < (n.pts.length : Int)))) with h1 | h1
  · skip
    have h2 := f_dec h1
    refine rg_put (d := 15) (v := .pt 101 1) rfl (oy rfl rfl rfl h1 (of_eff (s_field_pt rfl Tryz.underlying32 rfl ti30 rfl rfl rfl) rfl)) ?_
    refine rg_put (d := 16) (v := .d (.sl 4 (List.map eLnk n.lks))) rfl (oy rfl rfl rfl h1 (op_load_pt rfl Tryz.underlying30 rfl rfl rfl rfl rfl)) ?_
    refine rg_put (d := 17) (v := .d (.fl (.int .i64 (n.lks.length : Int)))) rfl (oy rfl rfl rfl h1 (s_len rfl Tryz.underlying30 rfl rfl)) ?_
    refine rg_put (d := 18) (v := .d (.fl (.bool ((decide (128 < (n.lks.length : Int))))))) rfl (oy rfl rfl rfl h1 (op_bin rfl rfl rfl (b_gtr _ _ _ _) rfl)) ?_
    refine rg_put (d := 19) (v := .d (.fl (.bool ((decide (128 < (n.lks.length : Int))))))) rfl (og rfl (op_pick rfl rfl (by rw [h1]; rfl) rfl)) ?_
    refine rg_done rfl ?_
    refine a_cond rfl (fun h3 => ?_) (fun h3 => ?_)
    · skip
      have h4 := t_dec h3
      refine a_rseq ?_
      refine rg_put (d := 2) (v := .d (.fl (.int .i64 3))) rfl (og rfl (op_assign rfl rfl rfl)) ?_
      refine rg_done rfl ?_
      refine a_ret ?_
      show ∃ ds, ResL _ _ _ ds ∧ RV.of ds = _
      refine ⟨[.fl (.int .i64 3)], (.cons (.tmp rfl (.d _)) .nil), ?_⟩
      rw [gck_l (by simp only [h1, h3, Bool.true_or, Bool.false_or, Bool.or_true, Bool.or_false, Bool.not_true, Bool.not_false, cond_true, cond_false, Bool.true_and, Bool.false_and, Bool.and_true, Bool.and_false] <;> rfl)]; rfl
    · skip
      have h5 := f_dec h3
      refine a_skip ?_
      show A _ _ _ _ _ _ _
      refine a_rseq ?_
      refine rg_nam (d := 20) (v := .ow 102) (m := 102) (nw := [(102, .mp [])]) rfl (og rfl (op_makeMap 102 rfl rfl)) rfl ?_
      refine rg_put (d := 3) (v := .ow 102) rfl (og rfl (op_assign rfl rfl rfl)) ?_
      refine rg_done rfl ?_
      refine a_seq ?_
      refine a_rseq ?_
      refine rg_put (d := 21) (v := .pt 101 0) rfl (og rfl (of_eff (s_field_pt rfl Tryz.underlying32 rfl ti25 rfl rfl rfl) rfl)) ?_
      refine rg_put (d := 22) (v := .d (.sl 3 (List.map ePnt n.pts))) rfl (og rfl (op_load_pt rfl Tryz.underlying25 rfl rfl rfl rfl rfl)) ?_
      refine rg_put (d := 23) (v := .d (.fl (.int .i64 (n.pts.length : Int)))) rfl (og rfl (s_len rfl Tryz.underlying25 rfl rfl)) ?_
      refine rg_put (d := 24) (v := .d (.fl (.int .i64 0))) rfl (og rfl (op_move rfl rfl rfl)) ?_
      refine rg_done rfl ?_
      refine a_block ?_
      refine a_loop (ι := Nat) (fun k => SS [(0, .d (.ag (eNwk n))), (1, .pt 101 0), (3, .ow 102), (19, .d (.fl (.bool ((decide (128 < (n.lks.length : Int))))))), (22, .d (.sl 3 (List.map ePnt n.pts))), (23, .d (.fl (.int .i64 (n.pts.length : Int)))), (24, .d (.fl (.int .i64 (k : Int))))] [(101, .bx 32 (eNwk n)), (102, .mp ((setP (n.pts.take k))))]) (fun k => k ≤ n.pts.length ∧ ptE n.pts = fe (pt1 n.pts) k (n.pts.length - k)) (fun k => n.pts.length - k) 0 (⟨by omega, rfl⟩) (imp_forget rfl ⟨rfl, rfl, rfl, rfl, rfl, rfl, (by first | rfl | exact ci (by omega) | exact ci (by simp) | exact cd (by simp) | simp), trivial⟩ ⟨rfl, rfl, trivial⟩) (fun k hok => ?_)
      obtain ⟨hk, hc⟩ := hok
      refine a_rseq ?_
      refine rg_put (d := 25) (v := .d (.fl (.bool ((decide ((k : Int) < (n.pts.length : Int))))))) rfl (og rfl (op_bin rfl rfl rfl (b_lss _ _ _ _) rfl)) ?_
      refine rg_done rfl ?_
      refine a_seq ?_
      refine a_cond rfl (fun h6 => ?_) (fun h6 => ?_)
      · skip
        have h7 := t_dec h6
        refine a_skip ?_
        show A _ _ _ _ _ _ _
        refine a_seq ?_
        refine a_block ?_
        refine a_rseq ?_
        refine rg_put (d := 26) (v := .el ((ePnt (ix n.pts k)))) rfl (og rfl (s_index rfl Tryz.underlying25 ti29 rfl rfl (by omega) (row_at (by omega)) rfl)) ?_
        refine rg_put (d := 27) (v := .d (.ag (ePnt (ix n.pts k)))) rfl (og rfl (of_eff (s_load_els rfl Tryz.underlying29 rfl ti29 rfl rfl rfl) rfl)) ?_
        refine rg_nam (d := 5) (v := .pt 103 0) (m := 103) (nw := [(103, .bx 29 ([.fl (.string (⟨#[]⟩)), .fl (.int .i64 0), .fl (.string (⟨#[]⟩))]))]) rfl (og rfl (of_eff (s_alloc 103 rfl ti29 (by kernel_rfl) rfl) rfl)) rfl ?_
        refine rg_sto (nw := [(103, .bx 29 ((ePnt (ix n.pts k))))]) rfl (og rfl (of_eff (s_store rfl rfl ti29 rfl rfl rfl rfl rfl rfl) rfl)) ?_
        refine rg_done rfl ?_
        refine a_seq ?_
        refine a_block ?_
        refine a_rseq ?_
        refine rg_put (d := 29) (v := .pt 103 0) rfl (og rfl (of_eff (s_field_pt rfl Tryz.underlying29 rfl ti9 rfl rfl rfl) rfl)) ?_
        refine rg_put (d := 30) (v := .d (.fl (.string ((ix n.pts k).name)))) rfl (og rfl (op_load_pt rfl Tryz.underlying9 rfl rfl rfl rfl rfl)) ?_
        refine rg_put (d := 31) (v := .d (.fl (.bool ((Nm.nmB ((ix n.pts k).name)))))) rfl (og rfl (op_call rfl Tryz.func65 nm65 rfl (.cons rfl (.d _) .nil) (nmC ((ix n.pts k).name)) rfl)) ?_
        refine rg_put (d := 32) (v := .d (.fl (.bool ((!((Nm.nmB ((ix n.pts k).name)))))))) rfl (og rfl (op_un rfl rfl (u_not _) rfl)) ?_
        refine rg_put (d := 28) (v := .d (.fl (.bool ((!((Nm.nmB ((ix n.pts k).name)))))))) rfl (og rfl (op_assign rfl rfl rfl)) ?_
        refine rg_done rfl ?_
        refine a_cond rfl (fun h8 => ?_) (fun h8 => ?_)
        · skip
          have h9 := t_not h8
          refine a_rseq ?_
          refine rg_put (d := 2) (v := .d (.fl (.int .i64 6))) rfl (og rfl (op_assign rfl rfl rfl)) ?_
          refine rg_done rfl ?_
          refine a_ret ?_
          show ∃ ds, ResL _ _ _ ds ∧ RV.of ds = _
          refine ⟨[.fl (.int .i64 6)], (.cons (.tmp rfl (.d _)) .nil), ?_⟩
          have hb : pt1 n.pts k = 6 := by unfold pt1; simp only [h1, h3, h6, h8, h9, Bool.true_or, Bool.false_or, Bool.or_true, Bool.or_false, Bool.not_true, Bool.not_false, cond_true, cond_false, Bool.true_and, Bool.false_and, Bool.and_true, Bool.and_false] <;> rfl
          rw [gck_p (by simp only [h1, h3, h6, h8, h9, Bool.true_or, Bool.false_or, Bool.or_true, Bool.or_false, Bool.not_true, Bool.not_false, cond_true, cond_false, Bool.true_and, Bool.false_and, Bool.and_true, Bool.and_false] <;> rfl) (show ptE n.pts = 6 from fe_yes (by omega) hc hb (by decide)) (by decide)]; rfl
        · skip
          have h10 := f_not h8
          refine a_rseq ?_
          refine rg_put (d := 34) (v := .ow 102) rfl (og rfl (op_move rfl rfl rfl)) ?_
          refine rg_put (d := 35) (v := .pt 103 0) rfl (og rfl (of_eff (s_field_pt rfl Tryz.underlying29 rfl ti9 rfl rfl rfl) rfl)) ?_
          refine rg_put (d := 36) (v := .d (.fl (.string ((ix n.pts k).name)))) rfl (og rfl (op_load_pt rfl Tryz.underlying9 rfl rfl rfl rfl rfl)) ?_
          rcases fot ((dupP (n.pts.take k) ((ix n.pts k).name))) with h11 | h11
          · skip
            refine rg_put (d := 37) (v := .d (.fl (.bool false))) rfl (og rfl (op_lookup1 rfl Tryz.underlying109 Tryz.underlying9 rfl ti4 rfl rfl (.ow rfl) rfl (r := none) ((mfind_set Pnt.name _ _).trans (by rw [show (List.any _ _) = _ from h11]; rfl)) rfl rfl)) ?_
            refine rg_put (d := 33) (v := .d (.fl (.bool false))) rfl (og rfl (op_assign rfl rfl rfl)) ?_
            refine rg_done rfl ?_
            refine a_condF rfl rfl ?_
            refine a_rseq ?_
            refine rg_put (d := 39) (v := .pt 103 1) rfl (og rfl (of_eff (s_field_pt rfl Tryz.underlying29 rfl ti3 rfl rfl rfl) rfl)) ?_
            refine rg_put (d := 40) (v := .d (.fl (.int .i64 ((ix n.pts k).kind)))) rfl (og rfl (op_load_pt rfl Tryz.underlying3 rfl rfl rfl rfl rfl)) ?_
            refine rg_put (d := 41) (v := .d (.fl (.bool ((decide ((ix n.pts k).kind < 1)))))) rfl (og rfl (op_bin rfl rfl rfl (b_lss _ _ _ _) rfl)) ?_
            refine rg_put (d := 42) (v := .d (.fl (.bool ((decide ((ix n.pts k).kind < 1)))))) rfl (og rfl (op_move rfl rfl rfl)) ?_
            rcases fot ((decide ((ix n.pts k).kind < 1))) with h12 | h12
            · skip
              have h13 := f_dec h12
              refine rg_put (d := 43) (v := .pt 103 1) rfl (oy rfl rfl rfl h12 (of_eff (s_field_pt rfl Tryz.underlying29 rfl ti3 rfl rfl rfl) rfl)) ?_
              refine rg_put (d := 44) (v := .d (.fl (.int .i64 ((ix n.pts k).kind)))) rfl (oy rfl rfl rfl h12 (op_load_pt rfl Tryz.underlying3 rfl rfl rfl rfl rfl)) ?_
              refine rg_put (d := 45) (v := .d (.fl (.bool ((decide (4 < (ix n.pts k).kind)))))) rfl (oy rfl rfl rfl h12 (op_bin rfl rfl rfl (b_gtr _ _ _ _) rfl)) ?_
              refine rg_put (d := 46) (v := .d (.fl (.bool ((decide (4 < (ix n.pts k).kind)))))) rfl (og rfl (op_pick rfl rfl (by rw [h12]; rfl) rfl)) ?_
              refine rg_put (d := 38) (v := .d (.fl (.bool ((decide (4 < (ix n.pts k).kind)))))) rfl (og rfl (op_assign rfl rfl rfl)) ?_
              refine rg_done rfl ?_
              refine a_cond rfl (fun h14 => ?_) (fun h14 => ?_)
              · skip
                have h15 := t_dec h14
                refine a_rseq ?_
                refine rg_put (d := 2) (v := .d (.fl (.int .i64 1))) rfl (og rfl (op_assign rfl rfl rfl)) ?_
                refine rg_done rfl ?_
                refine a_ret ?_
                show ∃ ds, ResL _ _ _ ds ∧ RV.of ds = _
                refine ⟨[.fl (.int .i64 1)], (.cons (.tmp rfl (.d _)) .nil), ?_⟩
                have hb : pt1 n.pts k = 1 := by unfold pt1; simp only [h1, h3, h6, h8, h10, h11, h12, h14, Bool.true_or, Bool.false_or, Bool.or_true, Bool.or_false, Bool.not_true, Bool.not_false, cond_true, cond_false, Bool.true_and, Bool.false_and, Bool.and_true, Bool.and_false] <;> rfl
                rw [gck_p (by simp only [h1, h3, h6, h8, h10, h11, h12, h14, Bool.true_or, Bool.false_or, Bool.or_true, Bool.or_false, Bool.not_true, Bool.not_false, cond_true, cond_false, Bool.true_and, Bool.false_and, Bool.and_true, Bool.and_false] <;> rfl) (show ptE n.pts = 1 from fe_yes (by omega) hc hb (by decide)) (by decide)]; rfl
              · skip
                have h16 := f_dec h14
                refine a_rseq ?_
                refine rg_put (d := 48) (v := .pt 103 2) rfl (og rfl (of_eff (s_field_pt rfl Tryz.underlying29 rfl ti9 rfl rfl rfl) rfl)) ?_
                refine rg_put (d := 49) (v := .d (.fl (.string ((ix n.pts k).sys)))) rfl (og rfl (op_load_pt rfl Tryz.underlying9 rfl rfl rfl rfl rfl)) ?_
                refine rg_put (d := 50) (v := .d (.fl (.bool ((!(sEq ((ix n.pts k).sys) (⟨#[]⟩))))))) rfl (og rfl (op_bin rfl rfl rfl (b_sne _ _ _) rfl)) ?_
                refine rg_put (d := 51) (v := .d (.fl (.bool ((!(sEq ((ix n.pts k).sys) (⟨#[]⟩))))))) rfl (og rfl (op_move rfl rfl rfl)) ?_
                rcases fot ((!(sEq ((ix n.pts k).sys) (⟨#[]⟩)))) with h17 | h17
                · skip
                  have h18 := f_not h17
                  refine rg_put (d := 52) (v := .d (.fl undef)) rfl (on rfl rfl rfl h17) ?_
                  refine rg_put (d := 53) (v := .d (.fl undef)) rfl (on rfl rfl rfl h17) ?_
                  refine rg_put (d := 54) (v := .d (.fl undef)) rfl (on rfl rfl rfl h17) ?_
                  refine rg_put (d := 55) (v := .d (.fl undef)) rfl (on rfl rfl rfl h17) ?_
                  refine rg_put (d := 56) (v := .d (.fl (.bool false))) rfl (og rfl (op_pick rfl rfl (by rw [h17]; rfl) rfl)) ?_
                  refine rg_put (d := 47) (v := .d (.fl (.bool false))) rfl (og rfl (op_assign rfl rfl rfl)) ?_
                  refine rg_done rfl ?_
                  refine a_condF rfl rfl ?_
                  refine a_skip ?_
                  show A _ _ _ _ _ _ _
                  refine a_region ?_
                  refine rg_put (d := 57) (v := .ow 102) rfl (og rfl (op_move rfl rfl rfl)) ?_
                  refine rg_put (d := 58) (v := .pt 103 0) rfl (og rfl (of_eff (s_field_pt rfl Tryz.underlying29 rfl ti9 rfl rfl rfl) rfl)) ?_
                  refine rg_put (d := 59) (v := .d (.fl (.string ((ix n.pts k).name)))) rfl (og rfl (op_load_pt rfl Tryz.underlying9 rfl rfl rfl rfl rfl)) ?_
                  refine rg_sto (nw := [(102, .mp ((setP (n.pts.take k)) ++ [((.string ((ix n.pts k).name)), .fl (.bool true))]))]) rfl (og rfl (op_mapPush rfl rfl Tryz.underlying109 Tryz.underlying9 rfl rfl rfl rfl ((mfind_set Pnt.name _ _).trans (by rw [show (List.any _ _) = _ from h11]; rfl)) rfl)) ?_
                  refine rg_done rfl ?_
                  show A _ _ _ _ _ _ _
                  refine a_region ?_
                  refine rg_put (d := 60) (v := .d (.fl (.int .i64 (((k : Int) + 1))))) rfl (og rfl (op_bin rfl rfl rfl (fun x y w => b_add64 _ _ _ x y w (by omega)) rfl)) ?_
                  refine rg_put (d := 24) (v := .d (.fl (.int .i64 (((k : Int) + 1))))) rfl (og rfl (op_move rfl rfl rfl)) ?_
                  refine rg_done rfl ?_
                  have hb : pt1 n.pts k = 0 := by unfold pt1; simp only [h1, h3, h6, h8, h10, h11, h12, h14, h17, h18, Bool.true_or, Bool.false_or, Bool.or_true, Bool.or_false, Bool.not_true, Bool.not_false, cond_true, cond_false, Bool.true_and, Bool.false_and, Bool.and_true, Bool.and_false] <;> rfl
                  show ∃ i, _ ∧ _ ∧ Imp _ _ _ _ _
                  refine ⟨k + 1, ⟨by omega, fe_no (by omega) hc hb⟩, by omega, imp_forget rfl ⟨rfl, rfl, rfl, rfl, rfl, rfl, (by first | rfl | exact ci (by omega) | exact ci (by simp) | exact cd (by simp) | simp), trivial⟩ ⟨rfl, (congrArg (fun z => Ob.mp z) (setP_take (by omega))), trivial⟩⟩
                · skip
                  have h19 := t_not h17
                  refine rg_put (d := 52) (v := .pt 103 2) rfl (oy rfl rfl rfl h17 (of_eff (s_field_pt rfl Tryz.underlying29 rfl ti9 rfl rfl rfl) rfl)) ?_
                  refine rg_put (d := 53) (v := .d (.fl (.string ((ix n.pts k).sys)))) rfl (oy rfl rfl rfl h17 (op_load_pt rfl Tryz.underlying9 rfl rfl rfl rfl rfl)) ?_
                  refine rg_put (d := 54) (v := .d (.fl (.bool ((Nm.nmB ((ix n.pts k).sys)))))) rfl (oy rfl rfl rfl h17 (op_call rfl Tryz.func65 nm65 rfl (.cons rfl (.d _) .nil) (nmC ((ix n.pts k).sys)) rfl)) ?_
                  refine rg_put (d := 55) (v := .d (.fl (.bool ((!((Nm.nmB ((ix n.pts k).sys)))))))) rfl (oy rfl rfl rfl h17 (op_un rfl rfl (u_not _) rfl)) ?_
                  refine rg_put (d := 56) (v := .d (.fl (.bool ((!((Nm.nmB ((ix n.pts k).sys)))))))) rfl (og rfl (op_pick rfl rfl (by rw [h17]; rfl) rfl)) ?_
                  refine rg_put (d := 47) (v := .d (.fl (.bool ((!((Nm.nmB ((ix n.pts k).sys)))))))) rfl (og rfl (op_assign rfl rfl rfl)) ?_
                  refine rg_done rfl ?_
                  refine a_cond rfl (fun h20 => ?_) (fun h20 => ?_)
                  · skip
                    have h21 := t_not h20
                    refine a_rseq ?_
                    refine rg_put (d := 2) (v := .d (.fl (.int .i64 6))) rfl (og rfl (op_assign rfl rfl rfl)) ?_
                    refine rg_done rfl ?_
                    refine a_ret ?_
                    show ∃ ds, ResL _ _ _ ds ∧ RV.of ds = _
                    refine ⟨[.fl (.int .i64 6)], (.cons (.tmp rfl (.d _)) .nil), ?_⟩
                    have hb : pt1 n.pts k = 6 := by unfold pt1; simp only [h1, h3, h6, h8, h10, h11, h12, h14, h17, h19, h20, h21, Bool.true_or, Bool.false_or, Bool.or_true, Bool.or_false, Bool.not_true, Bool.not_false, cond_true, cond_false, Bool.true_and, Bool.false_and, Bool.and_true, Bool.and_false] <;> rfl
                    rw [gck_p (by simp only [h1, h3, h6, h8, h10, h11, h12, h14, h17, h19, h20, h21, Bool.true_or, Bool.false_or, Bool.or_true, Bool.or_false, Bool.not_true, Bool.not_false, cond_true, cond_false, Bool.true_and, Bool.false_and, Bool.and_true, Bool.and_false] <;> rfl) (show ptE n.pts = 6 from fe_yes (by omega) hc hb (by decide)) (by decide)]; rfl
                  · skip
                    have h22 := f_not h20
                    refine a_skip ?_
                    show A _ _ _ _ _ _ _
                    refine a_region ?_
                    refine rg_put (d := 57) (v := .ow 102) rfl (og rfl (op_move rfl rfl rfl)) ?_
                    refine rg_put (d := 58) (v := .pt 103 0) rfl (og rfl (of_eff (s_field_pt rfl Tryz.underlying29 rfl ti9 rfl rfl rfl) rfl)) ?_
                    refine rg_put (d := 59) (v := .d (.fl (.string ((ix n.pts k).name)))) rfl (og rfl (op_load_pt rfl Tryz.underlying9 rfl rfl rfl rfl rfl)) ?_
                    refine rg_sto (nw := [(102, .mp ((setP (n.pts.take k)) ++ [((.string ((ix n.pts k).name)), .fl (.bool true))]))]) rfl (og rfl (op_mapPush rfl rfl Tryz.underlying109 Tryz.underlying9 rfl rfl rfl rfl ((mfind_set Pnt.name _ _).trans (by rw [show (List.any _ _) = _ from h11]; rfl)) rfl)) ?_
                    refine rg_done rfl ?_
                    show A _ _ _ _ _ _ _
                    refine a_region ?_
                    refine rg_put (d := 60) (v := .d (.fl (.int .i64 (((k : Int) + 1))))) rfl (og rfl (op_bin rfl rfl rfl (fun x y w => b_add64 _ _ _ x y w (by omega)) rfl)) ?_
                    refine rg_put (d := 24) (v := .d (.fl (.int .i64 (((k : Int) + 1))))) rfl (og rfl (op_move rfl rfl rfl)) ?_
                    refine rg_done rfl ?_
                    have hb : pt1 n.pts k = 0 := by unfold pt1; simp only [h1, h3, h6, h8, h10, h11, h12, h14, h17, h19, h20, h22, Bool.true_or, Bool.false_or, Bool.or_true, Bool.or_false, Bool.not_true, Bool.not_false, cond_true, cond_false, Bool.true_and, Bool.false_and, Bool.and_true, Bool.and_false] <;> rfl
                    show ∃ i, _ ∧ _ ∧ Imp _ _ _ _ _
                    refine ⟨k + 1, ⟨by omega, fe_no (by omega) hc hb⟩, by omega, imp_forget rfl ⟨rfl, rfl, rfl, rfl, rfl, rfl, (by first | rfl | exact ci (by omega) | exact ci (by simp) | exact cd (by simp) | simp), trivial⟩ ⟨rfl, (congrArg (fun z => Ob.mp z) (setP_take (by omega))), trivial⟩⟩
            · skip
              have h23 := t_dec h12
              refine rg_put (d := 43) (v := .d (.fl undef)) rfl (on rfl rfl rfl h12) ?_
              refine rg_put (d := 44) (v := .d (.fl undef)) rfl (on rfl rfl rfl h12) ?_
              refine rg_put (d := 45) (v := .d (.fl undef)) rfl (on rfl rfl rfl h12) ?_
              refine rg_put (d := 46) (v := .d (.fl (.bool true))) rfl (og rfl (op_pick rfl rfl (by rw [h12]; rfl) rfl)) ?_
              refine rg_put (d := 38) (v := .d (.fl (.bool true))) rfl (og rfl (op_assign rfl rfl rfl)) ?_
              refine rg_done rfl ?_
              refine a_condK rfl rfl ?_
              refine a_rseq ?_
              refine rg_put (d := 2) (v := .d (.fl (.int .i64 1))) rfl (og rfl (op_assign rfl rfl rfl)) ?_
              refine rg_done rfl ?_
              refine a_ret ?_
              show ∃ ds, ResL _ _ _ ds ∧ RV.of ds = _
              refine ⟨[.fl (.int .i64 1)], (.cons (.tmp rfl (.d _)) .nil), ?_⟩
              have hb : pt1 n.pts k = 1 := by unfold pt1; simp only [h1, h3, h6, h8, h10, h11, h12, Bool.true_or, Bool.false_or, Bool.or_true, Bool.or_false, Bool.not_true, Bool.not_false, cond_true, cond_false, Bool.true_and, Bool.false_and, Bool.and_true, Bool.and_false] <;> rfl
              rw [gck_p (by simp only [h1, h3, h6, h8, h10, h11, h12, Bool.true_or, Bool.false_or, Bool.or_true, Bool.or_false, Bool.not_true, Bool.not_false, cond_true, cond_false, Bool.true_and, Bool.false_and, Bool.and_true, Bool.and_false] <;> rfl) (show ptE n.pts = 1 from fe_yes (by omega) hc hb (by decide)) (by decide)]; rfl
          · skip
            refine rg_put (d := 37) (v := .d (.fl (.bool true))) rfl (og rfl (op_lookup1 rfl Tryz.underlying109 Tryz.underlying9 rfl ti4 rfl rfl (.ow rfl) rfl (r := (some (.fl (.bool true)))) ((mfind_set Pnt.name _ _).trans (by rw [show (List.any _ _) = _ from h11]; rfl)) rfl rfl)) ?_
            refine rg_put (d := 33) (v := .d (.fl (.bool true))) rfl (og rfl (op_assign rfl rfl rfl)) ?_
            refine rg_done rfl ?_
            refine a_condK rfl rfl ?_
            refine a_rseq ?_
            refine rg_put (d := 2) (v := .d (.fl (.int .i64 9))) rfl (og rfl (op_assign rfl rfl rfl)) ?_
            refine rg_done rfl ?_
            refine a_ret ?_
            show ∃ ds, ResL _ _ _ ds ∧ RV.of ds = _
            refine ⟨[.fl (.int .i64 9)], (.cons (.tmp rfl (.d _)) .nil), ?_⟩
            have hb : pt1 n.pts k = 9 := by unfold pt1; simp only [h1, h3, h6, h8, h10, h11, Bool.true_or, Bool.false_or, Bool.or_true, Bool.or_false, Bool.not_true, Bool.not_false, cond_true, cond_false, Bool.true_and, Bool.false_and, Bool.and_true, Bool.and_false] <;> rfl
            rw [gck_p (by simp only [h1, h3, h6, h8, h10, h11, Bool.true_or, Bool.false_or, Bool.or_true, Bool.or_false, Bool.not_true, Bool.not_false, cond_true, cond_false, Bool.true_and, Bool.false_and, Bool.and_true, Bool.and_false] <;> rfl) (show ptE n.pts = 9 from fe_yes (by omega) hc hb (by decide)) (by decide)]; rfl
      · skip
        have h24 := f_dec h6
        refine a_exit ?_
        show A _ _ _ _ _ _ _
        refine a_rseq ?_
        have hp0 : ptE n.pts = 0 := by rw [fe_end (by omega)] at hc; exact hc
        have hlim : (decide (64 < (n.pts.length : Int)) || decide (128 < (n.lks.length : Int))) = false := (by simp only [h1, h3, h6, Bool.true_or, Bool.false_or, Bool.or_true, Bool.or_false, Bool.not_true, Bool.not_false, cond_true, cond_false, Bool.true_and, Bool.false_and, Bool.and_true, Bool.and_false] <;> rfl)
        have hp64 : n.pts.length ≤ 64 := by omega
        rw [show (setP (n.pts.take k)) = (setP n.pts) from (by rw [List.take_of_length_le (by omega)])]
        refine rg_nam (d := 61) (v := .ow 104) (m := 104) (nw := [(104, .mp [])]) rfl (og rfl (op_makeMap 104 rfl rfl)) rfl ?_
        refine rg_put (d := 6) (v := .ow 104) rfl (og rfl (op_assign rfl rfl rfl)) ?_
        refine rg_done rfl ?_
        refine a_seq ?_
        refine a_rseq ?_
        refine rg_put (d := 62) (v := .pt 101 1) rfl (og rfl (of_eff (s_field_pt rfl Tryz.underlying32 rfl ti30 rfl rfl rfl) rfl)) ?_
        refine rg_put (d := 63) (v := .d (.sl 4 (List.map eLnk n.lks))) rfl (og rfl (op_load_pt rfl Tryz.underlying30 rfl rfl rfl rfl rfl)) ?_
        refine rg_put (d := 64) (v := .d (.fl (.int .i64 (n.lks.length : Int)))) rfl (og rfl (s_len rfl Tryz.underlying30 rfl rfl)) ?_
        refine rg_put (d := 65) (v := .d (.fl (.int .i64 0))) rfl (og rfl (op_move rfl rfl rfl)) ?_
        refine rg_done rfl ?_
        refine a_block ?_
        refine a_loop (ι := Nat) (fun j => SS [(0, .d (.ag (eNwk n))), (1, .pt 101 0), (3, .ow 102), (6, .ow 104), (19, .d (.fl (.bool ((decide (128 < (n.lks.length : Int))))))), (22, .d (.sl 3 (List.map ePnt n.pts))), (23, .d (.fl (.int .i64 (n.pts.length : Int)))), (24, .d (.fl (.int .i64 (k : Int)))), (25, .d (.fl (.bool ((decide ((k : Int) < (n.pts.length : Int))))))), (63, .d (.sl 4 (List.map eLnk n.lks))), (64, .d (.fl (.int .i64 (n.lks.length : Int)))), (65, .d (.fl (.int .i64 (j : Int))))] [(101, .bx 32 (eNwk n)), (102, .mp (setP n.pts)), (104, .mp ((setL (n.lks.take j))))]) (fun j => j ≤ n.lks.length ∧ lkE n.pts n.lks = fe (lk1 n.pts n.lks) j (n.lks.length - j)) (fun j => n.lks.length - j) 0 (⟨by omega, rfl⟩) (imp_forget rfl ⟨rfl, rfl, rfl, rfl, rfl, rfl, rfl, rfl, rfl, rfl, rfl, (by first | rfl | exact ci (by omega) | exact ci (by simp) | exact cd (by simp) | simp), trivial⟩ ⟨rfl, rfl, rfl, trivial⟩) (fun j hok => ?_)
        obtain ⟨hk, hc⟩ := hok
        refine a_rseq ?_
        refine rg_put (d := 66) (v := .d (.fl (.bool ((decide ((j : Int) < (n.lks.length : Int))))))) rfl (og rfl (op_bin rfl rfl rfl (b_lss _ _ _ _) rfl)) ?_
        refine rg_done rfl ?_
        refine a_seq ?_
        refine a_cond rfl (fun h25 => ?_) (fun h25 => ?_)
        · skip
          have h26 := t_dec h25
          refine a_skip ?_
          show A _ _ _ _ _ _ _
          refine a_seq ?_
          refine a_block ?_
          refine a_rseq ?_
          refine rg_put (d := 67) (v := .el ((eLnk (ix n.lks j)))) rfl (og rfl (s_index rfl Tryz.underlying30 ti152 rfl rfl (by omega) (row_at (by omega)) rfl)) ?_
          refine rg_put (d := 68) (v := .d (.ag (eLnk (ix n.lks j)))) rfl (og rfl (of_eff (s_load_els rfl Tryz.underlying152 rfl ti152 rfl rfl rfl) rfl)) ?_
          refine rg_nam (d := 8) (v := .pt 105 0) (m := 105) (nw := [(105, .bx 152 ([.fl (.string (⟨#[]⟩)), .fl (.string (⟨#[]⟩)), .fl (.int .i64 0), .fl (.int .i64 0)]))]) rfl (og rfl (of_eff (s_alloc 105 rfl ti152 (by kernel_rfl) rfl) rfl)) rfl ?_
          refine rg_sto (nw := [(105, .bx 152 ((eLnk (ix n.lks j))))]) rfl (og rfl (of_eff (s_store rfl rfl ti152 rfl rfl rfl rfl rfl rfl) rfl)) ?_
          refine rg_done rfl ?_
          refine a_rseq ?_
          refine rg_put (d := 69) (v := .pt 105 0) rfl (og rfl (of_eff (s_field_pt rfl Tryz.underlying152 rfl ti9 rfl rfl rfl) rfl)) ?_
          refine rg_put (d := 70) (v := .d (.fl (.string ((ix n.lks j).fr)))) rfl (og rfl (op_load_pt rfl Tryz.underlying9 rfl rfl rfl rfl rfl)) ?_
          refine rg_put (d := 71) (v := .pt 105 1) rfl (og rfl (of_eff (s_field_pt rfl Tryz.underlying152 rfl ti9 rfl rfl rfl) rfl)) ?_
          refine rg_put (d := 72) (v := .d (.fl (.string ((ix n.lks j).to)))) rfl (og rfl (op_load_pt rfl Tryz.underlying9 rfl rfl rfl rfl rfl)) ?_
          refine rg_put (d := 73) (v := .d (.ag [.fl (.string ((ix n.lks j).fr)), .fl (.string ((ix n.lks j).to))])) rfl (og rfl (of_eff (op_buildA rfl Tryz.underlying153 ti153 ti9 (by kernel_rfl) (by kernel_rfl) (.cons rfl rfl (.d _) rfl rfl rfl (.cons rfl rfl (.d _) rfl rfl rfl .nil)) rfl) rfl)) ?_
          refine rg_nam (d := 9) (v := .pt 106 0) (m := 106) (nw := [(106, .bx 153 ([.fl (.string (⟨#[]⟩)), .fl (.string (⟨#[]⟩))]))]) rfl (og rfl (of_eff (s_alloc 106 rfl ti153 (by kernel_rfl) rfl) rfl)) rfl ?_
          refine rg_sto (nw := [(106, .bx 153 [.fl (.string ((ix n.lks j).fr)), .fl (.string ((ix n.lks j).to))])]) rfl (og rfl (of_eff (s_store rfl rfl ti153 rfl rfl rfl rfl rfl rfl) rfl)) ?_
          refine rg_done rfl ?_
          refine a_seq ?_
          refine a_block ?_
          refine a_rseq ?_
          refine rg_put (d := 75) (v := .ow 102) rfl (og rfl (op_move rfl rfl rfl)) ?_
          refine rg_put (d := 76) (v := .pt 105 0) rfl (og rfl (of_eff (s_field_pt rfl Tryz.underlying152 rfl ti9 rfl rfl rfl) rfl)) ?_
          refine rg_put (d := 77) (v := .d (.fl (.string ((ix n.lks j).fr)))) rfl (og rfl (op_load_pt rfl Tryz.underlying9 rfl rfl rfl rfl rfl)) ?_
          rcases fot ((dupP n.pts ((ix n.lks j).fr))) with h27 | h27
          · skip
            refine rg_put (d := 78) (v := .d (.fl (.bool false))) rfl (og rfl (op_lookup1 rfl Tryz.underlying109 Tryz.underlying9 rfl ti4 rfl rfl (.ow rfl) rfl (r := none) ((mfind_set Pnt.name _ _).trans (by rw [show (List.any _ _) = _ from h27]; rfl)) rfl rfl)) ?_
            refine rg_put (d := 79) (v := .d (.fl (.bool (!false)))) rfl (og rfl (op_un rfl rfl (u_not _) rfl)) ?_
            refine rg_put (d := 80) (v := .d (.fl (.bool (!false)))) rfl (og rfl (op_move rfl rfl rfl)) ?_
            refine rg_put (d := 81) (v := .d (.fl undef)) rfl (on rfl rfl rfl rfl) ?_
            refine rg_put (d := 82) (v := .d (.fl undef)) rfl (on rfl rfl rfl rfl) ?_
            refine rg_put (d := 83) (v := .d (.fl undef)) rfl (on rfl rfl rfl rfl) ?_
            refine rg_put (d := 84) (v := .d (.fl undef)) rfl (on rfl rfl rfl rfl) ?_
            refine rg_put (d := 85) (v := .d (.fl undef)) rfl (on rfl rfl rfl rfl) ?_
            refine rg_put (d := 86) (v := .d (.fl (.bool true))) rfl (og rfl (op_pick rfl rfl rfl rfl)) ?_
            refine rg_put (d := 87) (v := .d (.fl (.bool true))) rfl (og rfl (op_move rfl rfl rfl)) ?_
            refine rg_put (d := 88) (v := .d (.fl undef)) rfl (on rfl rfl rfl rfl) ?_
            refine rg_put (d := 89) (v := .d (.fl undef)) rfl (on rfl rfl rfl rfl) ?_
            refine rg_put (d := 90) (v := .d (.fl undef)) rfl (on rfl rfl rfl rfl) ?_
            refine rg_put (d := 91) (v := .d (.fl undef)) rfl (on rfl rfl rfl rfl) ?_
            refine rg_put (d := 92) (v := .d (.fl undef)) rfl (on rfl rfl rfl rfl) ?_
            refine rg_put (d := 93) (v := .d (.fl (.bool true))) rfl (og rfl (op_pick rfl rfl rfl rfl)) ?_
            refine rg_put (d := 74) (v := .d (.fl (.bool true))) rfl (og rfl (op_assign rfl rfl rfl)) ?_
            refine rg_done rfl ?_
            refine a_condK rfl rfl ?_
            refine a_rseq ?_
            refine rg_put (d := 2) (v := .d (.fl (.int .i64 16))) rfl (og rfl (op_assign rfl rfl rfl)) ?_
            refine rg_done rfl ?_
            refine a_ret ?_
            show ∃ ds, ResL _ _ _ ds ∧ RV.of ds = _
            refine ⟨[.fl (.int .i64 16)], (.cons (.tmp rfl (.d _)) .nil), ?_⟩
            have hb : lk1 n.pts n.lks j = 16 := by unfold lk1; simp only [h1, h3, h6, h25, h27, Bool.true_or, Bool.false_or, Bool.or_true, Bool.or_false, Bool.not_true, Bool.not_false, cond_true, cond_false, Bool.true_and, Bool.false_and, Bool.and_true, Bool.and_false] <;> rfl
            rw [gck_k hlim hp0, show lkE n.pts n.lks = 16 from fe_yes (by omega) hc hb (by decide)]; rfl
          · skip
            refine rg_put (d := 78) (v := .d (.fl (.bool true))) rfl (og rfl (op_lookup1 rfl Tryz.underlying109 Tryz.underlying9 rfl ti4 rfl rfl (.ow rfl) rfl (r := (some (.fl (.bool true)))) ((mfind_set Pnt.name _ _).trans (by rw [show (List.any _ _) = _ from h27]; rfl)) rfl rfl)) ?_
            refine rg_put (d := 79) (v := .d (.fl (.bool (!true)))) rfl (og rfl (op_un rfl rfl (u_not _) rfl)) ?_
            refine rg_put (d := 80) (v := .d (.fl (.bool (!true)))) rfl (og rfl (op_move rfl rfl rfl)) ?_
            refine rg_put (d := 81) (v := .ow 102) rfl (oy rfl rfl rfl rfl (op_move rfl rfl rfl)) ?_
            refine rg_put (d := 82) (v := .pt 105 1) rfl (oy rfl rfl rfl rfl (of_eff (s_field_pt rfl Tryz.underlying152 rfl ti9 rfl rfl rfl) rfl)) ?_
            refine rg_put (d := 83) (v := .d (.fl (.string ((ix n.lks j).to)))) rfl (oy rfl rfl rfl rfl (op_load_pt rfl Tryz.underlying9 rfl rfl rfl rfl rfl)) ?_
            rcases fot ((dupP n.pts ((ix n.lks j).to))) with h28 | h28
            · skip
              refine rg_put (d := 84) (v := .d (.fl (.bool false))) rfl (oy rfl rfl rfl rfl (op_lookup1 rfl Tryz.underlying109 Tryz.underlying9 rfl ti4 rfl rfl (.ow rfl) rfl (r := none) ((mfind_set Pnt.name _ _).trans (by rw [show (List.any _ _) = _ from h28]; rfl)) rfl rfl)) ?_
              refine rg_put (d := 85) (v := .d (.fl (.bool (!false)))) rfl (oy rfl rfl rfl rfl (op_un rfl rfl (u_not _) rfl)) ?_
              refine rg_put (d := 86) (v := .d (.fl (.bool (!false)))) rfl (og rfl (op_pick rfl rfl rfl rfl)) ?_
              refine rg_put (d := 87) (v := .d (.fl (.bool (!false)))) rfl (og rfl (op_move rfl rfl rfl)) ?_
              refine rg_put (d := 88) (v := .d (.fl undef)) rfl (on rfl rfl rfl rfl) ?_
              refine rg_put (d := 89) (v := .d (.fl undef)) rfl (on rfl rfl rfl rfl) ?_
              refine rg_put (d := 90) (v := .d (.fl undef)) rfl (on rfl rfl rfl rfl) ?_
              refine rg_put (d := 91) (v := .d (.fl undef)) rfl (on rfl rfl rfl rfl) ?_
              refine rg_put (d := 92) (v := .d (.fl undef)) rfl (on rfl rfl rfl rfl) ?_
              refine rg_put (d := 93) (v := .d (.fl (.bool true))) rfl (og rfl (op_pick rfl rfl rfl rfl)) ?_
              refine rg_put (d := 74) (v := .d (.fl (.bool true))) rfl (og rfl (op_assign rfl rfl rfl)) ?_
              refine rg_done rfl ?_
              refine a_condK rfl rfl ?_
              refine a_rseq ?_
              refine rg_put (d := 2) (v := .d (.fl (.int .i64 16))) rfl (og rfl (op_assign rfl rfl rfl)) ?_
              refine rg_done rfl ?_
              refine a_ret ?_
              show ∃ ds, ResL _ _ _ ds ∧ RV.of ds = _
              refine ⟨[.fl (.int .i64 16)], (.cons (.tmp rfl (.d _)) .nil), ?_⟩
              have hb : lk1 n.pts n.lks j = 16 := by unfold lk1; simp only [h1, h3, h6, h25, h27, h28, Bool.true_or, Bool.false_or, Bool.or_true, Bool.or_false, Bool.not_true, Bool.not_false, cond_true, cond_false, Bool.true_and, Bool.false_and, Bool.and_true, Bool.and_false] <;> rfl
              rw [gck_k hlim hp0, show lkE n.pts n.lks = 16 from fe_yes (by omega) hc hb (by decide)]; rfl
            · skip
              refine rg_put (d := 84) (v := .d (.fl (.bool true))) rfl (oy rfl rfl rfl rfl (op_lookup1 rfl Tryz.underlying109 Tryz.underlying9 rfl ti4 rfl rfl (.ow rfl) rfl (r := (some (.fl (.bool true)))) ((mfind_set Pnt.name _ _).trans (by rw [show (List.any _ _) = _ from h28]; rfl)) rfl rfl)) ?_
              refine rg_put (d := 85) (v := .d (.fl (.bool (!true)))) rfl (oy rfl rfl rfl rfl (op_un rfl rfl (u_not _) rfl)) ?_
              refine rg_put (d := 86) (v := .d (.fl (.bool (!true)))) rfl (og rfl (op_pick rfl rfl rfl rfl)) ?_
              refine rg_put (d := 87) (v := .d (.fl (.bool (!true)))) rfl (og rfl (op_move rfl rfl rfl)) ?_
              refine rg_put (d := 88) (v := .pt 105 0) rfl (oy rfl rfl rfl rfl (of_eff (s_field_pt rfl Tryz.underlying152 rfl ti9 rfl rfl rfl) rfl)) ?_
              refine rg_put (d := 89) (v := .d (.fl (.string ((ix n.lks j).fr)))) rfl (oy rfl rfl rfl rfl (op_load_pt rfl Tryz.underlying9 rfl rfl rfl rfl rfl)) ?_
              refine rg_put (d := 90) (v := .pt 105 1) rfl (oy rfl rfl rfl rfl (of_eff (s_field_pt rfl Tryz.underlying152 rfl ti9 rfl rfl rfl) rfl)) ?_
              refine rg_put (d := 91) (v := .d (.fl (.string ((ix n.lks j).to)))) rfl (oy rfl rfl rfl rfl (op_load_pt rfl Tryz.underlying9 rfl rfl rfl rfl rfl)) ?_
              refine rg_put (d := 92) (v := .d (.fl (.bool ((sEq ((ix n.lks j).fr) ((ix n.lks j).to)))))) rfl (oy rfl rfl rfl rfl (op_bin rfl rfl rfl (b_seq _ _ _) rfl)) ?_
              refine rg_put (d := 93) (v := .d (.fl (.bool ((sEq ((ix n.lks j).fr) ((ix n.lks j).to)))))) rfl (og rfl (op_pick rfl rfl rfl rfl)) ?_
              refine rg_put (d := 74) (v := .d (.fl (.bool ((sEq ((ix n.lks j).fr) ((ix n.lks j).to)))))) rfl (og rfl (op_assign rfl rfl rfl)) ?_
              refine rg_done rfl ?_
              refine a_cond rfl (fun h29 => ?_) (fun h29 => ?_)
              · skip
                refine a_rseq ?_
                refine rg_put (d := 2) (v := .d (.fl (.int .i64 16))) rfl (og rfl (op_assign rfl rfl rfl)) ?_
                refine rg_done rfl ?_
                refine a_ret ?_
                show ∃ ds, ResL _ _ _ ds ∧ RV.of ds = _
                refine ⟨[.fl (.int .i64 16)], (.cons (.tmp rfl (.d _)) .nil), ?_⟩
                have hb : lk1 n.pts n.lks j = 16 := by unfold lk1; simp only [h1, h3, h6, h25, h27, h28, h29, Bool.true_or, Bool.false_or, Bool.or_true, Bool.or_false, Bool.not_true, Bool.not_false, cond_true, cond_false, Bool.true_and, Bool.false_and, Bool.and_true, Bool.and_false] <;> rfl
                rw [gck_k hlim hp0, show lkE n.pts n.lks = 16 from fe_yes (by omega) hc hb (by decide)]; rfl
              · skip
                refine a_rseq ?_
                refine rg_put (d := 95) (v := .ow 104) rfl (og rfl (op_move rfl rfl rfl)) ?_
                refine rg_put (d := 96) (v := .d (.ag [.fl (.string ((ix n.lks j).fr)), .fl (.string ((ix n.lks j).to))])) rfl (og rfl (of_eff (s_load_pts rfl Tryz.underlying153 rfl ti153 rfl rfl rfl rfl) rfl)) ?_
                rcases fot ((dupL (n.lks.take j) (ix n.lks j).fr (ix n.lks j).to)) with h30 | h30
                · skip
                  refine rg_put (d := 97) (v := .d (.fl (.bool false))) rfl (og rfl (op_lookup1K rfl Tryz.underlying150 keyK153 ti4 rfl rfl (.ow rfl) (ks := [(.string ((ix n.lks j).fr)), (.string ((ix n.lks j).to))]) rfl ⟨_, _, rfl⟩ (okL _) (r := none) ((mfindL _ _ _).trans (by rw [h30]; rfl)) rfl rfl)) ?_
                  refine rg_put (d := 94) (v := .d (.fl (.bool false))) rfl (og rfl (op_assign rfl rfl rfl)) ?_
                  refine rg_done rfl ?_
                  refine a_condF rfl rfl ?_
                  refine a_rseq ?_
                  refine rg_put (d := 99) (v := .pt 105 2) rfl (og rfl (of_eff (s_field_pt rfl Tryz.underlying152 rfl ti3 rfl rfl rfl) rfl)) ?_
                  refine rg_put (d := 100) (v := .d (.fl (.int .i64 ((ix n.lks j).lo)))) rfl (og rfl (op_load_pt rfl Tryz.underlying3 rfl rfl rfl rfl rfl)) ?_
                  refine rg_put (d := 101) (v := .d (.fl (.bool ((decide ((ix n.lks j).lo < 1)))))) rfl (og rfl (op_bin rfl rfl rfl (b_lss _ _ _ _) rfl)) ?_
                  refine rg_put (d := 102) (v := .d (.fl (.bool ((decide ((ix n.lks j).lo < 1)))))) rfl (og rfl (op_move rfl rfl rfl)) ?_
                  rcases fot ((decide ((ix n.lks j).lo < 1))) with h31 | h31
                  · skip
                    have h32 := f_dec h31
                    refine rg_put (d := 103) (v := .pt 105 2) rfl (oy rfl rfl rfl h31 (of_eff (s_field_pt rfl Tryz.underlying152 rfl ti3 rfl rfl rfl) rfl)) ?_
                    refine rg_put (d := 104) (v := .d (.fl (.int .i64 ((ix n.lks j).lo)))) rfl (oy rfl rfl rfl h31 (op_load_pt rfl Tryz.underlying3 rfl rfl rfl rfl rfl)) ?_
                    refine rg_put (d := 105) (v := .pt 105 3) rfl (oy rfl rfl rfl h31 (of_eff (s_field_pt rfl Tryz.underlying152 rfl ti3 rfl rfl rfl) rfl)) ?_
                    refine rg_put (d := 106) (v := .d (.fl (.int .i64 ((ix n.lks j).hi)))) rfl (oy rfl rfl rfl h31 (op_load_pt rfl Tryz.underlying3 rfl rfl rfl rfl rfl)) ?_
                    refine rg_put (d := 107) (v := .d (.fl (.bool ((decide ((ix n.lks j).hi < (ix n.lks j).lo)))))) rfl (oy rfl rfl rfl h31 (op_bin rfl rfl rfl (b_gtr _ _ _ _) rfl)) ?_
                    refine rg_put (d := 108) (v := .d (.fl (.bool ((decide ((ix n.lks j).hi < (ix n.lks j).lo)))))) rfl (og rfl (op_pick rfl rfl (by rw [h31]; rfl) rfl)) ?_
                    refine rg_put (d := 109) (v := .d (.fl (.bool ((decide ((ix n.lks j).hi < (ix n.lks j).lo)))))) rfl (og rfl (op_move rfl rfl rfl)) ?_
                    rcases fot ((decide ((ix n.lks j).hi < (ix n.lks j).lo))) with h33 | h33
                    · skip
                      have h34 := f_dec h33
                      refine rg_put (d := 110) (v := .pt 105 3) rfl (oy rfl rfl rfl h33 (of_eff (s_field_pt rfl Tryz.underlying152 rfl ti3 rfl rfl rfl) rfl)) ?_
                      refine rg_put (d := 111) (v := .d (.fl (.int .i64 ((ix n.lks j).hi)))) rfl (oy rfl rfl rfl h33 (op_load_pt rfl Tryz.underlying3 rfl rfl rfl rfl rfl)) ?_
                      refine rg_put (d := 112) (v := .d (.fl (.bool ((decide (2147483648 < (ix n.lks j).hi)))))) rfl (oy rfl rfl rfl h33 (op_bin rfl rfl rfl (b_gtr _ _ _ _) rfl)) ?_
                      refine rg_put (d := 113) (v := .d (.fl (.bool ((decide (2147483648 < (ix n.lks j).hi)))))) rfl (og rfl (op_pick rfl rfl (by rw [h33]; rfl) rfl)) ?_
                      refine rg_put (d := 98) (v := .d (.fl (.bool ((decide (2147483648 < (ix n.lks j).hi)))))) rfl (og rfl (op_assign rfl rfl rfl)) ?_
                      refine rg_done rfl ?_
                      refine a_cond rfl (fun h35 => ?_) (fun h35 => ?_)
                      · skip
                        have h36 := t_dec h35
                        refine a_rseq ?_
                        refine rg_put (d := 2) (v := .d (.fl (.int .i64 12))) rfl (og rfl (op_assign rfl rfl rfl)) ?_
                        refine rg_done rfl ?_
                        refine a_ret ?_
                        show ∃ ds, ResL _ _ _ ds ∧ RV.of ds = _
                        refine ⟨[.fl (.int .i64 12)], (.cons (.tmp rfl (.d _)) .nil), ?_⟩
                        have hb : lk1 n.pts n.lks j = 12 := by unfold lk1; simp only [h1, h3, h6, h25, h27, h28, h29, h30, h31, h33, h35, Bool.true_or, Bool.false_or, Bool.or_true, Bool.or_false, Bool.not_true, Bool.not_false, cond_true, cond_false, Bool.true_and, Bool.false_and, Bool.and_true, Bool.and_false] <;> rfl
                        rw [gck_k hlim hp0, show lkE n.pts n.lks = 12 from fe_yes (by omega) hc hb (by decide)]; rfl
                      · skip
                        have h37 := f_dec h35
                        refine a_skip ?_
                        show A _ _ _ _ _ _ _
                        refine a_region ?_
                        refine rg_put (d := 114) (v := .ow 104) rfl (og rfl (op_move rfl rfl rfl)) ?_
                        refine rg_put (d := 115) (v := .d (.ag [.fl (.string ((ix n.lks j).fr)), .fl (.string ((ix n.lks j).to))])) rfl (og rfl (of_eff (s_load_pts rfl Tryz.underlying153 rfl ti153 rfl rfl rfl rfl) rfl)) ?_
                        refine rg_sto (nw := [(104, .mp ((setL (n.lks.take j)) ++ [(.agg ([(.string ((ix n.lks j).fr)), (.string ((ix n.lks j).to))] : List Value).toArray, .fl (.bool true))]))]) rfl (og rfl (op_mapPushK rfl rfl Tryz.underlying150 keyK153 rfl rfl (ks := [(.string ((ix n.lks j).fr)), (.string ((ix n.lks j).to))]) rfl ⟨_, _, rfl⟩ (okL _) ((mfindL _ _ _).trans (by rw [h30]; rfl)) rfl)) ?_
                        refine rg_done rfl ?_
                        show A _ _ _ _ _ _ _
                        refine a_region ?_
                        refine rg_put (d := 116) (v := .d (.fl (.int .i64 (((j : Int) + 1))))) rfl (og rfl (op_bin rfl rfl rfl (fun x y w => b_add64 _ _ _ x y w (by omega)) rfl)) ?_
                        refine rg_put (d := 65) (v := .d (.fl (.int .i64 (((j : Int) + 1))))) rfl (og rfl (op_move rfl rfl rfl)) ?_
                        refine rg_done rfl ?_
                        have hb : lk1 n.pts n.lks j = 0 := by unfold lk1; simp only [h1, h3, h6, h25, h27, h28, h29, h30, h31, h33, h35, Bool.true_or, Bool.false_or, Bool.or_true, Bool.or_false, Bool.not_true, Bool.not_false, cond_true, cond_false, Bool.true_and, Bool.false_and, Bool.and_true, Bool.and_false] <;> rfl
                        show ∃ i, _ ∧ _ ∧ Imp _ _ _ _ _
                        refine ⟨j + 1, ⟨by omega, fe_no (by omega) hc hb⟩, by omega, imp_forget rfl ⟨rfl, rfl, rfl, rfl, rfl, rfl, rfl, rfl, rfl, rfl, rfl, (by first | rfl | exact ci (by omega) | exact ci (by simp) | exact cd (by simp) | simp), trivial⟩ ⟨rfl, rfl, (congrArg (fun z => Ob.mp z) (setL_take (by omega))), trivial⟩⟩
                    · skip
                      have h38 := t_dec h33
                      refine rg_put (d := 110) (v := .d (.fl undef)) rfl (on rfl rfl rfl h33) ?_
                      refine rg_put (d := 111) (v := .d (.fl undef)) rfl (on rfl rfl rfl h33) ?_
                      refine rg_put (d := 112) (v := .d (.fl undef)) rfl (on rfl rfl rfl h33) ?_
                      refine rg_put (d := 113) (v := .d (.fl (.bool true))) rfl (og rfl (op_pick rfl rfl (by rw [h33]; rfl) rfl)) ?_
                      refine rg_put (d := 98) (v := .d (.fl (.bool true))) rfl (og rfl (op_assign rfl rfl rfl)) ?_
                      refine rg_done rfl ?_
                      refine a_condK rfl rfl ?_
                      refine a_rseq ?_
                      refine rg_put (d := 2) (v := .d (.fl (.int .i64 12))) rfl (og rfl (op_assign rfl rfl rfl)) ?_
                      refine rg_done rfl ?_
                      refine a_ret ?_
                      show ∃ ds, ResL _ _ _ ds ∧ RV.of ds = _
                      refine ⟨[.fl (.int .i64 12)], (.cons (.tmp rfl (.d _)) .nil), ?_⟩
                      have hb : lk1 n.pts n.lks j = 12 := by unfold lk1; simp only [h1, h3, h6, h25, h27, h28, h29, h30, h31, h33, Bool.true_or, Bool.false_or, Bool.or_true, Bool.or_false, Bool.not_true, Bool.not_false, cond_true, cond_false, Bool.true_and, Bool.false_and, Bool.and_true, Bool.and_false] <;> rfl
                      rw [gck_k hlim hp0, show lkE n.pts n.lks = 12 from fe_yes (by omega) hc hb (by decide)]; rfl
                  · skip
                    have h39 := t_dec h31
                    refine rg_put (d := 103) (v := .d (.fl undef)) rfl (on rfl rfl rfl h31) ?_
                    refine rg_put (d := 104) (v := .d (.fl undef)) rfl (on rfl rfl rfl h31) ?_
                    refine rg_put (d := 105) (v := .d (.fl undef)) rfl (on rfl rfl rfl h31) ?_
                    refine rg_put (d := 106) (v := .d (.fl undef)) rfl (on rfl rfl rfl h31) ?_
                    refine rg_put (d := 107) (v := .d (.fl undef)) rfl (on rfl rfl rfl h31) ?_
                    refine rg_put (d := 108) (v := .d (.fl (.bool true))) rfl (og rfl (op_pick rfl rfl (by rw [h31]; rfl) rfl)) ?_
                    refine rg_put (d := 109) (v := .d (.fl (.bool true))) rfl (og rfl (op_move rfl rfl rfl)) ?_
                    refine rg_put (d := 110) (v := .d (.fl undef)) rfl (on rfl rfl rfl rfl) ?_
                    refine rg_put (d := 111) (v := .d (.fl undef)) rfl (on rfl rfl rfl rfl) ?_
                    refine rg_put (d := 112) (v := .d (.fl undef)) rfl (on rfl rfl rfl rfl) ?_
                    refine rg_put (d := 113) (v := .d (.fl (.bool true))) rfl (og rfl (op_pick rfl rfl rfl rfl)) ?_
                    refine rg_put (d := 98) (v := .d (.fl (.bool true))) rfl (og rfl (op_assign rfl rfl rfl)) ?_
                    refine rg_done rfl ?_
                    refine a_condK rfl rfl ?_
                    refine a_rseq ?_
                    refine rg_put (d := 2) (v := .d (.fl (.int .i64 12))) rfl (og rfl (op_assign rfl rfl rfl)) ?_
                    refine rg_done rfl ?_
                    refine a_ret ?_
                    show ∃ ds, ResL _ _ _ ds ∧ RV.of ds = _
                    refine ⟨[.fl (.int .i64 12)], (.cons (.tmp rfl (.d _)) .nil), ?_⟩
                    have hb : lk1 n.pts n.lks j = 12 := by unfold lk1; simp only [h1, h3, h6, h25, h27, h28, h29, h30, h31, Bool.true_or, Bool.false_or, Bool.or_true, Bool.or_false, Bool.not_true, Bool.not_false, cond_true, cond_false, Bool.true_and, Bool.false_and, Bool.and_true, Bool.and_false] <;> rfl
                    rw [gck_k hlim hp0, show lkE n.pts n.lks = 12 from fe_yes (by omega) hc hb (by decide)]; rfl
                · skip
                  refine rg_put (d := 97) (v := .d (.fl (.bool true))) rfl (og rfl (op_lookup1K rfl Tryz.underlying150 keyK153 ti4 rfl rfl (.ow rfl) (ks := [(.string ((ix n.lks j).fr)), (.string ((ix n.lks j).to))]) rfl ⟨_, _, rfl⟩ (okL _) (r := (some (.fl (.bool true)))) ((mfindL _ _ _).trans (by rw [h30]; rfl)) rfl rfl)) ?_
                  refine rg_put (d := 94) (v := .d (.fl (.bool true))) rfl (og rfl (op_assign rfl rfl rfl)) ?_
                  refine rg_done rfl ?_
                  refine a_condK rfl rfl ?_
                  refine a_rseq ?_
                  refine rg_put (d := 2) (v := .d (.fl (.int .i64 9))) rfl (og rfl (op_assign rfl rfl rfl)) ?_
                  refine rg_done rfl ?_
                  refine a_ret ?_
                  show ∃ ds, ResL _ _ _ ds ∧ RV.of ds = _
                  refine ⟨[.fl (.int .i64 9)], (.cons (.tmp rfl (.d _)) .nil), ?_⟩
                  have hb : lk1 n.pts n.lks j = 9 := by unfold lk1; simp only [h1, h3, h6, h25, h27, h28, h29, h30, Bool.true_or, Bool.false_or, Bool.or_true, Bool.or_false, Bool.not_true, Bool.not_false, cond_true, cond_false, Bool.true_and, Bool.false_and, Bool.and_true, Bool.and_false] <;> rfl
                  rw [gck_k hlim hp0, show lkE n.pts n.lks = 9 from fe_yes (by omega) hc hb (by decide)]; rfl
        · skip
          have h40 := f_dec h25
          refine a_exit ?_
          show A _ _ _ _ _ _ _
          refine a_rseq ?_
          refine rg_put (d := 2) (v := .d (.fl (.int .i64 0))) rfl (og rfl (op_assign rfl rfl rfl)) ?_
          refine rg_done rfl ?_
          refine a_ret ?_
          show ∃ ds, ResL _ _ _ ds ∧ RV.of ds = _
          refine ⟨[.fl (.int .i64 0)], (.cons (.tmp rfl (.d _)) .nil), ?_⟩
          rw [gck_k hlim hp0, show lkE n.pts n.lks = 0 from by rw [fe_end (by omega)] at hc; exact hc]; rfl
  · skip
    have h41 := t_dec h1
    refine rg_put (d := 15) (v := .d (.fl undef)) rfl (on rfl rfl rfl h1) ?_
    refine rg_put (d := 16) (v := .d (.fl undef)) rfl (on rfl rfl rfl h1) ?_
    refine rg_put (d := 17) (v := .d (.fl undef)) rfl (on rfl rfl rfl h1) ?_
    refine rg_put (d := 18) (v := .d (.fl undef)) rfl (on rfl rfl rfl h1) ?_
    refine rg_put (d := 19) (v := .d (.fl (.bool true))) rfl (og rfl (op_pick rfl rfl (by rw [h1]; rfl) rfl)) ?_
    refine rg_done rfl ?_
    refine a_condK rfl rfl ?_
    refine a_rseq ?_
    refine rg_put (d := 2) (v := .d (.fl (.int .i64 3))) rfl (og rfl (op_assign rfl rfl rfl)) ?_
    refine rg_done rfl ?_
    refine a_ret ?_
    show ∃ ds, ResL _ _ _ ds ∧ RV.of ds = _
    refine ⟨[.fl (.int .i64 3)], (.cons (.tmp rfl (.d _)) .nil), ?_⟩
    rw [gck_l (by simp only [h1, Bool.true_or, Bool.false_or, Bool.or_true, Bool.or_false, Bool.not_true, Bool.not_false, cond_true, cond_false, Bool.true_and, Bool.false_and, Bool.and_true, Bool.and_false] <;> rfl)]; rfl
set_option maxHeartbeats 4000000 in
set_option maxRecDepth 100000 in
theorem gck_r (n : Nwk) : Ctr Tryz.prog 107 [.ag (eNwk n)] (.d (.fl (.int .i64 (gck n)))) := by
  refine ctr (n := 131) (rs := #[.tmp 2]) (L := [(0, .d (.ag (eNwk n)))]) Tryz.func107 rfl rfl rfl rfl rfl (fun w0 U0 => ?_)
  refine a_rseq ?_
  refine rg_nam (d := 1) (v := .pt 101 0) (m := 101) (nw := [(101, .bx 32 (eNwk n))]) rfl (og rfl (of_eff (op_box 101 rfl rfl rfl rfl) rfl)) rfl ?_
  refine rg_put (d := 2) (v := .d (.fl (.int .i64 0))) rfl (og rfl (op_assign rfl rfl rfl)) ?_
  refine rg_done rfl ?_
  refine a_seq ?_
  refine a_rseq ?_
  refine rg_put (d := 8) (v := .pt 101 0) rfl (og rfl (of_eff (s_field_pt rfl Tryz.underlying32 rfl ti25 rfl rfl rfl) rfl)) ?_
  refine rg_put (d := 9) (v := .d (.sl 3 (List.map ePnt n.pts))) rfl (og rfl (op_load_pt rfl Tryz.underlying25 rfl rfl rfl rfl rfl)) ?_
  refine rg_put (d := 10) (v := .d (.fl (.int .i64 (n.pts.length : Int)))) rfl (og rfl (s_len rfl Tryz.underlying25 rfl rfl)) ?_
  refine rg_put (d := 11) (v := .d (.fl (.bool ((decide (64 < (n.pts.length : Int))))))) rfl (og rfl (op_bin rfl rfl rfl (b_gtr _ _ _ _) rfl)) ?_
  refine rg_put (d := 12) (v := .d (.fl (.bool ((decide (64 < (n.pts.length : Int))))))) rfl (og rfl (op_move rfl rfl rfl)) ?_
  rcases fot ((decide (64 < (n.pts.length : Int)))) with h1 | h1
  · skip
    have h2 := f_dec h1
    refine rg_put (d := 13) (v := .pt 101 1) rfl (oy rfl rfl rfl h1 (of_eff (s_field_pt rfl Tryz.underlying32 rfl ti30 rfl rfl rfl) rfl)) ?_
    refine rg_put (d := 14) (v := .d (.sl 4 (List.map eLnk n.lks))) rfl (oy rfl rfl rfl h1 (op_load_pt rfl Tryz.underlying30 rfl rfl rfl rfl rfl)) ?_
    refine rg_put (d := 15) (v := .d (.fl (.int .i64 (n.lks.length : Int)))) rfl (oy rfl rfl rfl h1 (s_len rfl Tryz.underlying30 rfl rfl)) ?_
    refine rg_put (d := 16) (v := .d (.fl (.bool ((decide (128 < (n.lks.length : Int))))))) rfl (oy rfl rfl rfl h1 (op_bin rfl rfl rfl (b_gtr _ _ _ _) rfl)) ?_
    refine rg_put (d := 17) (v := .d (.fl (.bool ((decide (128 < (n.lks.length : Int))))))) rfl (og rfl (op_pick rfl rfl (by rw [h1]; rfl) rfl)) ?_
    refine rg_done rfl ?_
    refine a_cond rfl (fun h3 => ?_) (fun h3 => ?_)
    · skip
      have h4 := t_dec h3
      refine a_rseq ?_
      refine rg_put (d := 2) (v := .d (.fl (.int .i64 3))) rfl (og rfl (op_assign rfl rfl rfl)) ?_
      refine rg_done rfl ?_
      refine a_ret ?_
      show ∃ ds, ResL _ _ _ ds ∧ RV.of ds = _
      refine ⟨[.fl (.int .i64 3)], (.cons (.tmp rfl (.d _)) .nil), ?_⟩
      rw [gck_l (by simp only [h1, h3, Bool.true_or, Bool.false_or, Bool.or_true, Bool.or_false, Bool.not_true, Bool.not_false, cond_true, cond_false, Bool.true_and, Bool.false_and, Bool.and_true, Bool.and_false] <;> rfl)]; rfl
    · skip
      have h5 := f_dec h3
      refine a_skip ?_
      show A _ _ _ _ _ _ _
      refine a_seq ?_
      refine a_rseq ?_
      refine rg_put (d := 3) (v := .d (.fl (.int .i64 0))) rfl (og rfl (op_assign rfl rfl rfl)) ?_
      refine rg_done rfl ?_
      refine a_block ?_
      refine a_loop (ι := Nat) (fun k => SS [(0, .d (.ag (eNwk n))), (1, .pt 101 0), (17, .d (.fl (.bool ((decide (128 < (n.lks.length : Int))))))), (3, .d (.fl (.int .i64 (k : Int))))] [(101, .bx 32 (eNwk n))]) (fun k => k ≤ n.pts.length ∧ ptE n.pts = fe (pt1 n.pts) k (n.pts.length - k)) (fun k => n.pts.length - k) 0 (⟨by omega, rfl⟩) (imp_forget rfl ⟨rfl, rfl, rfl, (by first | rfl | exact ci (by omega) | exact ci (by simp) | exact cd (by simp) | simp), trivial⟩ ⟨rfl, trivial⟩) (fun k hok => ?_)
      obtain ⟨hk, hc⟩ := hok
      refine a_seq ?_
      refine a_rseq ?_
      refine rg_put (d := 18) (v := .d (.fl (.int .i64 (k : Int)))) rfl (og rfl (op_move rfl rfl rfl)) ?_
      refine rg_put (d := 19) (v := .pt 101 0) rfl (og rfl (of_eff (s_field_pt rfl Tryz.underlying32 rfl ti25 rfl rfl rfl) rfl)) ?_
      refine rg_put (d := 20) (v := .d (.sl 3 (List.map ePnt n.pts))) rfl (og rfl (op_load_pt rfl Tryz.underlying25 rfl rfl rfl rfl rfl)) ?_
      refine rg_put (d := 21) (v := .d (.fl (.int .i64 (n.pts.length : Int)))) rfl (og rfl (s_len rfl Tryz.underlying25 rfl rfl)) ?_
      refine rg_put (d := 22) (v := .d (.fl (.bool ((decide ((k : Int) < (n.pts.length : Int))))))) rfl (og rfl (op_bin rfl rfl rfl (b_lss _ _ _ _) rfl)) ?_
      refine rg_done rfl ?_
      refine a_cond rfl (fun h6 => ?_) (fun h6 => ?_)
      · skip
        have h7 := t_dec h6
        refine a_skip ?_
        show A _ _ _ _ _ _ _
        refine a_seq ?_
        refine a_block ?_
        refine a_rseq ?_
        refine rg_put (d := 25) (v := .pt 101 0) rfl (og rfl (of_eff (s_field_pt rfl Tryz.underlying32 rfl ti25 rfl rfl rfl) rfl)) ?_
        refine rg_put (d := 26) (v := .d (.sl 3 (List.map ePnt n.pts))) rfl (og rfl (op_load_pt rfl Tryz.underlying25 rfl rfl rfl rfl rfl)) ?_
        refine rg_put (d := 27) (v := .d (.fl (.int .i64 (k : Int)))) rfl (og rfl (op_move rfl rfl rfl)) ?_
        refine rg_put (d := 28) (v := .el ((ePnt (ix n.pts k)))) rfl (og rfl (s_index rfl Tryz.underlying25 ti29 rfl rfl (by omega) (row_at (by omega)) rfl)) ?_
        refine rg_put (d := 29) (v := .d (.ag (ePnt (ix n.pts k)))) rfl (og rfl (of_eff (s_load_els rfl Tryz.underlying29 rfl ti29 rfl rfl rfl) rfl)) ?_
        refine rg_nam (d := 4) (v := .pt 102 0) (m := 102) (nw := [(102, .bx 29 ([.fl (.string (⟨#[]⟩)), .fl (.int .i64 0), .fl (.string (⟨#[]⟩))]))]) rfl (og rfl (of_eff (s_alloc 102 rfl ti29 (by kernel_rfl) rfl) rfl)) rfl ?_
        refine rg_sto (nw := [(102, .bx 29 ((ePnt (ix n.pts k))))]) rfl (og rfl (of_eff (s_store rfl rfl ti29 rfl rfl rfl rfl rfl rfl) rfl)) ?_
        refine rg_done rfl ?_
        refine a_seq ?_
        refine a_rseq ?_
        refine rg_put (d := 30) (v := .pt 102 0) rfl (og rfl (of_eff (s_field_pt rfl Tryz.underlying29 rfl ti9 rfl rfl rfl) rfl)) ?_
        refine rg_put (d := 31) (v := .d (.fl (.string ((ix n.pts k).name)))) rfl (og rfl (op_load_pt rfl Tryz.underlying9 rfl rfl rfl rfl rfl)) ?_
        refine rg_put (d := 32) (v := .d (.fl (.bool ((Nm.nmB ((ix n.pts k).name)))))) rfl (og rfl (op_call rfl Tryz.func70 nm70 rfl (.cons rfl (.d _) .nil) (nmR ((ix n.pts k).name)) rfl)) ?_
        refine rg_put (d := 33) (v := .d (.fl (.bool ((!((Nm.nmB ((ix n.pts k).name)))))))) rfl (og rfl (op_un rfl rfl (u_not _) rfl)) ?_
        refine rg_done rfl ?_
        refine a_cond rfl (fun h8 => ?_) (fun h8 => ?_)
        · skip
          have h9 := t_not h8
          refine a_rseq ?_
          refine rg_put (d := 2) (v := .d (.fl (.int .i64 6))) rfl (og rfl (op_assign rfl rfl rfl)) ?_
          refine rg_done rfl ?_
          refine a_ret ?_
          show ∃ ds, ResL _ _ _ ds ∧ RV.of ds = _
          refine ⟨[.fl (.int .i64 6)], (.cons (.tmp rfl (.d _)) .nil), ?_⟩
          have hb : pt1 n.pts k = 6 := by unfold pt1; simp only [h1, h3, h6, h8, h9, Bool.true_or, Bool.false_or, Bool.or_true, Bool.or_false, Bool.not_true, Bool.not_false, cond_true, cond_false, Bool.true_and, Bool.false_and, Bool.and_true, Bool.and_false] <;> rfl
          rw [gck_p (by simp only [h1, h3, h6, h8, h9, Bool.true_or, Bool.false_or, Bool.or_true, Bool.or_false, Bool.not_true, Bool.not_false, cond_true, cond_false, Bool.true_and, Bool.false_and, Bool.and_true, Bool.and_false] <;> rfl) (show ptE n.pts = 6 from fe_yes (by omega) hc hb (by decide)) (by decide)]; rfl
        · skip
          have h10 := f_not h8
          refine a_skip ?_
          show A _ _ _ _ _ _ _
          refine a_seq ?_
          refine a_rseq ?_
          refine rg_put (d := 34) (v := .pt 101 0) rfl (og rfl (of_eff (s_field_pt rfl Tryz.underlying32 rfl ti25 rfl rfl rfl) rfl)) ?_
          refine rg_put (d := 35) (v := .d (.sl 3 (List.map ePnt n.pts))) rfl (og rfl (op_load_pt rfl Tryz.underlying25 rfl rfl rfl rfl rfl)) ?_
          refine rg_put (d := 36) (v := .d (.fl (.int .i64 (k : Int)))) rfl (og rfl (op_move rfl rfl rfl)) ?_
          refine rg_put (d := 37) (v := .pt 102 0) rfl (og rfl (of_eff (s_field_pt rfl Tryz.underlying29 rfl ti9 rfl rfl rfl) rfl)) ?_
          refine rg_put (d := 38) (v := .d (.fl (.string ((ix n.pts k).name)))) rfl (og rfl (op_load_pt rfl Tryz.underlying9 rfl rfl rfl rfl rfl)) ?_
          refine rg_put (d := 39) (v := .d (.fl (.int .i64 ((plc n.pts k ((ix n.pts k).name)))))) rfl (og rfl (op_call rfl Tryz.func68 nm68 rfl (.cons rfl (.d _) (.cons rfl (.d _) (.cons rfl (.d _) .nil))) (place_c n.pts k ((ix n.pts k).name) (by omega) (by omega)) rfl)) ?_
          refine rg_put (d := 40) (v := .d (.fl (.bool ((decide (0 ≤ (plc n.pts k ((ix n.pts k).name)))))))) rfl (og rfl (op_bin rfl rfl rfl (b_geq _ _ _ _) rfl)) ?_
          refine rg_done rfl ?_
          refine a_cond rfl (fun h11 => ?_) (fun h11 => ?_)
          · skip
            have h12 := t_dec h11
            refine a_rseq ?_
            refine rg_put (d := 2) (v := .d (.fl (.int .i64 9))) rfl (og rfl (op_assign rfl rfl rfl)) ?_
            refine rg_done rfl ?_
            refine a_ret ?_
            show ∃ ds, ResL _ _ _ ds ∧ RV.of ds = _
            refine ⟨[.fl (.int .i64 9)], (.cons (.tmp rfl (.d _)) .nil), ?_⟩
            have h13 : dupP (n.pts.take k) (ix n.pts k).name = true := (plc_ge _ _ _).symm.trans h11
            have hb : pt1 n.pts k = 9 := by unfold pt1; simp only [h1, h3, h6, h8, h10, h11, h13, Bool.true_or, Bool.false_or, Bool.or_true, Bool.or_false, Bool.not_true, Bool.not_false, cond_true, cond_false, Bool.true_and, Bool.false_and, Bool.and_true, Bool.and_false] <;> rfl
            rw [gck_p (by simp only [h1, h3, h6, h8, h10, h11, Bool.true_or, Bool.false_or, Bool.or_true, Bool.or_false, Bool.not_true, Bool.not_false, cond_true, cond_false, Bool.true_and, Bool.false_and, Bool.and_true, Bool.and_false] <;> rfl) (show ptE n.pts = 9 from fe_yes (by omega) hc hb (by decide)) (by decide)]; rfl
          · skip
            have h14 := f_dec h11
            refine a_skip ?_
            show A _ _ _ _ _ _ _
            refine a_seq ?_
            refine a_rseq ?_
            refine rg_put (d := 41) (v := .pt 102 1) rfl (og rfl (of_eff (s_field_pt rfl Tryz.underlying29 rfl ti3 rfl rfl rfl) rfl)) ?_
            refine rg_put (d := 42) (v := .d (.fl (.int .i64 ((ix n.pts k).kind)))) rfl (og rfl (op_load_pt rfl Tryz.underlying3 rfl rfl rfl rfl rfl)) ?_
            refine rg_put (d := 43) (v := .d (.fl (.bool ((decide ((ix n.pts k).kind < 1)))))) rfl (og rfl (op_bin rfl rfl rfl (b_lss _ _ _ _) rfl)) ?_
            refine rg_put (d := 44) (v := .d (.fl (.bool ((decide ((ix n.pts k).kind < 1)))))) rfl (og rfl (op_move rfl rfl rfl)) ?_
            rcases fot ((decide ((ix n.pts k).kind < 1))) with h15 | h15
            · skip
              have h16 := f_dec h15
              refine rg_put (d := 45) (v := .pt 102 1) rfl (oy rfl rfl rfl h15 (of_eff (s_field_pt rfl Tryz.underlying29 rfl ti3 rfl rfl rfl) rfl)) ?_
              refine rg_put (d := 46) (v := .d (.fl (.int .i64 ((ix n.pts k).kind)))) rfl (oy rfl rfl rfl h15 (op_load_pt rfl Tryz.underlying3 rfl rfl rfl rfl rfl)) ?_
              refine rg_put (d := 47) (v := .d (.fl (.bool ((decide (4 < (ix n.pts k).kind)))))) rfl (oy rfl rfl rfl h15 (op_bin rfl rfl rfl (b_gtr _ _ _ _) rfl)) ?_
              refine rg_put (d := 48) (v := .d (.fl (.bool ((decide (4 < (ix n.pts k).kind)))))) rfl (og rfl (op_pick rfl rfl (by rw [h15]; rfl) rfl)) ?_
              refine rg_done rfl ?_
              refine a_cond rfl (fun h17 => ?_) (fun h17 => ?_)
              · skip
                have h18 := t_dec h17
                refine a_rseq ?_
                refine rg_put (d := 2) (v := .d (.fl (.int .i64 1))) rfl (og rfl (op_assign rfl rfl rfl)) ?_
                refine rg_done rfl ?_
                refine a_ret ?_
                show ∃ ds, ResL _ _ _ ds ∧ RV.of ds = _
                refine ⟨[.fl (.int .i64 1)], (.cons (.tmp rfl (.d _)) .nil), ?_⟩
                have h19 : dupP (n.pts.take k) (ix n.pts k).name = false := (plc_ge _ _ _).symm.trans h11
                have hb : pt1 n.pts k = 1 := by unfold pt1; simp only [h1, h3, h6, h8, h10, h11, h15, h17, h19, Bool.true_or, Bool.false_or, Bool.or_true, Bool.or_false, Bool.not_true, Bool.not_false, cond_true, cond_false, Bool.true_and, Bool.false_and, Bool.and_true, Bool.and_false] <;> rfl
                rw [gck_p (by simp only [h1, h3, h6, h8, h10, h11, h15, h17, Bool.true_or, Bool.false_or, Bool.or_true, Bool.or_false, Bool.not_true, Bool.not_false, cond_true, cond_false, Bool.true_and, Bool.false_and, Bool.and_true, Bool.and_false] <;> rfl) (show ptE n.pts = 1 from fe_yes (by omega) hc hb (by decide)) (by decide)]; rfl
              · skip
                have h20 := f_dec h17
                refine a_skip ?_
                show A _ _ _ _ _ _ _
                refine a_rseq ?_
                refine rg_put (d := 49) (v := .pt 102 2) rfl (og rfl (of_eff (s_field_pt rfl Tryz.underlying29 rfl ti9 rfl rfl rfl) rfl)) ?_
                refine rg_put (d := 50) (v := .d (.fl (.string ((ix n.pts k).sys)))) rfl (og rfl (op_load_pt rfl Tryz.underlying9 rfl rfl rfl rfl rfl)) ?_
                refine rg_put (d := 51) (v := .d (.fl (.bool ((!(sEq ((ix n.pts k).sys) (⟨#[]⟩))))))) rfl (og rfl (op_bin rfl rfl rfl (b_sne _ _ _) rfl)) ?_
                refine rg_put (d := 52) (v := .d (.fl (.bool ((!(sEq ((ix n.pts k).sys) (⟨#[]⟩))))))) rfl (og rfl (op_move rfl rfl rfl)) ?_
                rcases fot ((!(sEq ((ix n.pts k).sys) (⟨#[]⟩)))) with h21 | h21
                · skip
                  have h22 := f_not h21
                  refine rg_put (d := 53) (v := .d (.fl undef)) rfl (on rfl rfl rfl h21) ?_
                  refine rg_put (d := 54) (v := .d (.fl undef)) rfl (on rfl rfl rfl h21) ?_
                  refine rg_put (d := 55) (v := .d (.fl undef)) rfl (on rfl rfl rfl h21) ?_
                  refine rg_put (d := 56) (v := .d (.fl undef)) rfl (on rfl rfl rfl h21) ?_
                  refine rg_put (d := 57) (v := .d (.fl (.bool false))) rfl (og rfl (op_pick rfl rfl (by rw [h21]; rfl) rfl)) ?_
                  refine rg_done rfl ?_
                  refine a_condF rfl rfl ?_
                  refine a_skip ?_
                  show A _ _ _ _ _ _ _
                  refine a_region ?_
                  refine rg_put (d := 23) (v := .d (.fl (.int .i64 (k : Int)))) rfl (og rfl (op_move rfl rfl rfl)) ?_
                  refine rg_put (d := 24) (v := .d (.fl (.int .i64 (((k : Int) + 1))))) rfl (og rfl (op_bin rfl rfl rfl (fun x y w => b_add64 _ _ _ x y w (by omega)) rfl)) ?_
                  refine rg_put (d := 3) (v := .d (.fl (.int .i64 (((k : Int) + 1))))) rfl (og rfl (op_assign rfl rfl rfl)) ?_
                  refine rg_done rfl ?_
                  have h23 : dupP (n.pts.take k) (ix n.pts k).name = false := (plc_ge _ _ _).symm.trans h11
                  have hb : pt1 n.pts k = 0 := by unfold pt1; simp only [h1, h3, h6, h8, h10, h11, h15, h17, h21, h22, h23, Bool.true_or, Bool.false_or, Bool.or_true, Bool.or_false, Bool.not_true, Bool.not_false, cond_true, cond_false, Bool.true_and, Bool.false_and, Bool.and_true, Bool.and_false] <;> rfl
                  show ∃ i, _ ∧ _ ∧ Imp _ _ _ _ _
                  refine ⟨k + 1, ⟨by omega, fe_no (by omega) hc hb⟩, by omega, imp_forget rfl ⟨rfl, rfl, rfl, (by first | rfl | exact ci (by omega) | exact ci (by simp) | exact cd (by simp) | simp), trivial⟩ ⟨rfl, trivial⟩⟩
                · skip
                  have h24 := t_not h21
                  refine rg_put (d := 53) (v := .pt 102 2) rfl (oy rfl rfl rfl h21 (of_eff (s_field_pt rfl Tryz.underlying29 rfl ti9 rfl rfl rfl) rfl)) ?_
                  refine rg_put (d := 54) (v := .d (.fl (.string ((ix n.pts k).sys)))) rfl (oy rfl rfl rfl h21 (op_load_pt rfl Tryz.underlying9 rfl rfl rfl rfl rfl)) ?_
                  refine rg_put (d := 55) (v := .d (.fl (.bool ((Nm.nmB ((ix n.pts k).sys)))))) rfl (oy rfl rfl rfl h21 (op_call rfl Tryz.func70 nm70 rfl (.cons rfl (.d _) .nil) (nmR ((ix n.pts k).sys)) rfl)) ?_
                  refine rg_put (d := 56) (v := .d (.fl (.bool ((!((Nm.nmB ((ix n.pts k).sys)))))))) rfl (oy rfl rfl rfl h21 (op_un rfl rfl (u_not _) rfl)) ?_
                  refine rg_put (d := 57) (v := .d (.fl (.bool ((!((Nm.nmB ((ix n.pts k).sys)))))))) rfl (og rfl (op_pick rfl rfl (by rw [h21]; rfl) rfl)) ?_
                  refine rg_done rfl ?_
                  refine a_cond rfl (fun h25 => ?_) (fun h25 => ?_)
                  · skip
                    have h26 := t_not h25
                    refine a_rseq ?_
                    refine rg_put (d := 2) (v := .d (.fl (.int .i64 6))) rfl (og rfl (op_assign rfl rfl rfl)) ?_
                    refine rg_done rfl ?_
                    refine a_ret ?_
                    show ∃ ds, ResL _ _ _ ds ∧ RV.of ds = _
                    refine ⟨[.fl (.int .i64 6)], (.cons (.tmp rfl (.d _)) .nil), ?_⟩
                    have h27 : dupP (n.pts.take k) (ix n.pts k).name = false := (plc_ge _ _ _).symm.trans h11
                    have hb : pt1 n.pts k = 6 := by unfold pt1; simp only [h1, h3, h6, h8, h10, h11, h15, h17, h21, h24, h25, h26, h27, Bool.true_or, Bool.false_or, Bool.or_true, Bool.or_false, Bool.not_true, Bool.not_false, cond_true, cond_false, Bool.true_and, Bool.false_and, Bool.and_true, Bool.and_false] <;> rfl
                    rw [gck_p (by simp only [h1, h3, h6, h8, h10, h11, h15, h17, h21, h24, h25, h26, Bool.true_or, Bool.false_or, Bool.or_true, Bool.or_false, Bool.not_true, Bool.not_false, cond_true, cond_false, Bool.true_and, Bool.false_and, Bool.and_true, Bool.and_false] <;> rfl) (show ptE n.pts = 6 from fe_yes (by omega) hc hb (by decide)) (by decide)]; rfl
                  · skip
                    have h28 := f_not h25
                    refine a_skip ?_
                    show A _ _ _ _ _ _ _
                    refine a_region ?_
                    refine rg_put (d := 23) (v := .d (.fl (.int .i64 (k : Int)))) rfl (og rfl (op_move rfl rfl rfl)) ?_
                    refine rg_put (d := 24) (v := .d (.fl (.int .i64 (((k : Int) + 1))))) rfl (og rfl (op_bin rfl rfl rfl (fun x y w => b_add64 _ _ _ x y w (by omega)) rfl)) ?_
                    refine rg_put (d := 3) (v := .d (.fl (.int .i64 (((k : Int) + 1))))) rfl (og rfl (op_assign rfl rfl rfl)) ?_
                    refine rg_done rfl ?_
                    have h29 : dupP (n.pts.take k) (ix n.pts k).name = false := (plc_ge _ _ _).symm.trans h11
                    have hb : pt1 n.pts k = 0 := by unfold pt1; simp only [h1, h3, h6, h8, h10, h11, h15, h17, h21, h24, h25, h28, h29, Bool.true_or, Bool.false_or, Bool.or_true, Bool.or_false, Bool.not_true, Bool.not_false, cond_true, cond_false, Bool.true_and, Bool.false_and, Bool.and_true, Bool.and_false] <;> rfl
                    show ∃ i, _ ∧ _ ∧ Imp _ _ _ _ _
                    refine ⟨k + 1, ⟨by omega, fe_no (by omega) hc hb⟩, by omega, imp_forget rfl ⟨rfl, rfl, rfl, (by first | rfl | exact ci (by omega) | exact ci (by simp) | exact cd (by simp) | simp), trivial⟩ ⟨rfl, trivial⟩⟩
            · skip
              have h30 := t_dec h15
              refine rg_put (d := 45) (v := .d (.fl undef)) rfl (on rfl rfl rfl h15) ?_
              refine rg_put (d := 46) (v := .d (.fl undef)) rfl (on rfl rfl rfl h15) ?_
              refine rg_put (d := 47) (v := .d (.fl undef)) rfl (on rfl rfl rfl h15) ?_
              refine rg_put (d := 48) (v := .d (.fl (.bool true))) rfl (og rfl (op_pick rfl rfl (by rw [h15]; rfl) rfl)) ?_
              refine rg_done rfl ?_
              refine a_condK rfl rfl ?_
              refine a_rseq ?_
              refine rg_put (d := 2) (v := .d (.fl (.int .i64 1))) rfl (og rfl (op_assign rfl rfl rfl)) ?_
              refine rg_done rfl ?_
              refine a_ret ?_
              show ∃ ds, ResL _ _ _ ds ∧ RV.of ds = _
              refine ⟨[.fl (.int .i64 1)], (.cons (.tmp rfl (.d _)) .nil), ?_⟩
              have h31 : dupP (n.pts.take k) (ix n.pts k).name = false := (plc_ge _ _ _).symm.trans h11
              have hb : pt1 n.pts k = 1 := by unfold pt1; simp only [h1, h3, h6, h8, h10, h11, h15, h31, Bool.true_or, Bool.false_or, Bool.or_true, Bool.or_false, Bool.not_true, Bool.not_false, cond_true, cond_false, Bool.true_and, Bool.false_and, Bool.and_true, Bool.and_false] <;> rfl
              rw [gck_p (by simp only [h1, h3, h6, h8, h10, h11, h15, Bool.true_or, Bool.false_or, Bool.or_true, Bool.or_false, Bool.not_true, Bool.not_false, cond_true, cond_false, Bool.true_and, Bool.false_and, Bool.and_true, Bool.and_false] <;> rfl) (show ptE n.pts = 1 from fe_yes (by omega) hc hb (by decide)) (by decide)]; rfl
      · skip
        have h32 := f_dec h6
        refine a_exit ?_
        show A _ _ _ _ _ _ _
        refine a_seq ?_
        refine a_rseq ?_
        have hp0 : ptE n.pts = 0 := by rw [fe_end (by omega)] at hc; exact hc
        have hlim : (decide (64 < (n.pts.length : Int)) || decide (128 < (n.lks.length : Int))) = false := (by simp only [h1, h3, h6, Bool.true_or, Bool.false_or, Bool.or_true, Bool.or_false, Bool.not_true, Bool.not_false, cond_true, cond_false, Bool.true_and, Bool.false_and, Bool.and_true, Bool.and_false] <;> rfl)
        have hp64 : n.pts.length ≤ 64 := by omega
        refine rg_put (d := 5) (v := .d (.fl (.int .i64 0))) rfl (og rfl (op_assign rfl rfl rfl)) ?_
        refine rg_done rfl ?_
        refine a_block ?_
        refine a_loop (ι := Nat) (fun j => SS [(0, .d (.ag (eNwk n))), (1, .pt 101 0), (3, .d (.fl (.int .i64 (k : Int)))), (17, .d (.fl (.bool ((decide (128 < (n.lks.length : Int))))))), (22, .d (.fl (.bool ((decide ((k : Int) < (n.pts.length : Int))))))), (5, .d (.fl (.int .i64 (j : Int))))] [(101, .bx 32 (eNwk n))]) (fun j => j ≤ n.lks.length ∧ lkE n.pts n.lks = fe (lk1 n.pts n.lks) j (n.lks.length - j)) (fun j => n.lks.length - j) 0 (⟨by omega, rfl⟩) (imp_forget rfl ⟨rfl, rfl, rfl, rfl, rfl, (by first | rfl | exact ci (by omega) | exact ci (by simp) | exact cd (by simp) | simp), trivial⟩ ⟨rfl, trivial⟩) (fun j hok => ?_)
        obtain ⟨hk, hc⟩ := hok
        refine a_seq ?_
        refine a_rseq ?_
        refine rg_put (d := 58) (v := .d (.fl (.int .i64 (j : Int)))) rfl (og rfl (op_move rfl rfl rfl)) ?_
        refine rg_put (d := 59) (v := .pt 101 1) rfl (og rfl (of_eff (s_field_pt rfl Tryz.underlying32 rfl ti30 rfl rfl rfl) rfl)) ?_
        refine rg_put (d := 60) (v := .d (.sl 4 (List.map eLnk n.lks))) rfl (og rfl (op_load_pt rfl Tryz.underlying30 rfl rfl rfl rfl rfl)) ?_
        refine rg_put (d := 61) (v := .d (.fl (.int .i64 (n.lks.length : Int)))) rfl (og rfl (s_len rfl Tryz.underlying30 rfl rfl)) ?_
        refine rg_put (d := 62) (v := .d (.fl (.bool ((decide ((j : Int) < (n.lks.length : Int))))))) rfl (og rfl (op_bin rfl rfl rfl (b_lss _ _ _ _) rfl)) ?_
        refine rg_done rfl ?_
        refine a_cond rfl (fun h33 => ?_) (fun h33 => ?_)
        · skip
          have h34 := t_dec h33
          refine a_skip ?_
          show A _ _ _ _ _ _ _
          refine a_seq ?_
          refine a_block ?_
          refine a_rseq ?_
          refine rg_put (d := 65) (v := .pt 101 1) rfl (og rfl (of_eff (s_field_pt rfl Tryz.underlying32 rfl ti30 rfl rfl rfl) rfl)) ?_
          refine rg_put (d := 66) (v := .d (.sl 4 (List.map eLnk n.lks))) rfl (og rfl (op_load_pt rfl Tryz.underlying30 rfl rfl rfl rfl rfl)) ?_
          refine rg_put (d := 67) (v := .d (.fl (.int .i64 (j : Int)))) rfl (og rfl (op_move rfl rfl rfl)) ?_
          refine rg_put (d := 68) (v := .el ((eLnk (ix n.lks j)))) rfl (og rfl (s_index rfl Tryz.underlying30 ti152 rfl rfl (by omega) (row_at (by omega)) rfl)) ?_
          refine rg_put (d := 69) (v := .d (.ag (eLnk (ix n.lks j)))) rfl (og rfl (of_eff (s_load_els rfl Tryz.underlying152 rfl ti152 rfl rfl rfl) rfl)) ?_
          refine rg_nam (d := 6) (v := .pt 103 0) (m := 103) (nw := [(103, .bx 152 ([.fl (.string (⟨#[]⟩)), .fl (.string (⟨#[]⟩)), .fl (.int .i64 0), .fl (.int .i64 0)]))]) rfl (og rfl (of_eff (s_alloc 103 rfl ti152 (by kernel_rfl) rfl) rfl)) rfl ?_
          refine rg_sto (nw := [(103, .bx 152 ((eLnk (ix n.lks j))))]) rfl (og rfl (of_eff (s_store rfl rfl ti152 rfl rfl rfl rfl rfl rfl) rfl)) ?_
          refine rg_done rfl ?_
          refine a_seq ?_
          refine a_rseq ?_
          refine rg_put (d := 70) (v := .pt 101 0) rfl (og rfl (of_eff (s_field_pt rfl Tryz.underlying32 rfl ti25 rfl rfl rfl) rfl)) ?_
          refine rg_put (d := 71) (v := .d (.sl 3 (List.map ePnt n.pts))) rfl (og rfl (op_load_pt rfl Tryz.underlying25 rfl rfl rfl rfl rfl)) ?_
          refine rg_put (d := 72) (v := .pt 103 0) rfl (og rfl (of_eff (s_field_pt rfl Tryz.underlying152 rfl ti9 rfl rfl rfl) rfl)) ?_
          refine rg_put (d := 73) (v := .d (.fl (.string ((ix n.lks j).fr)))) rfl (og rfl (op_load_pt rfl Tryz.underlying9 rfl rfl rfl rfl rfl)) ?_
          refine rg_put (d := 74) (v := .d (.fl (.int .i64 ((plc n.pts 64 ((ix n.lks j).fr)))))) rfl (og rfl (op_call rfl Tryz.func68 nm68 rfl (.cons rfl (.d _) (.cons rfl (.d _) (.cons rfl (.d _) .nil))) (place_c n.pts 64 ((ix n.lks j).fr) (by omega) (by omega)) rfl)) ?_
          refine rg_put (d := 75) (v := .d (.fl (.bool ((decide ((plc n.pts 64 ((ix n.lks j).fr)) < 0)))))) rfl (og rfl (op_bin rfl rfl rfl (b_lss _ _ _ _) rfl)) ?_
          refine rg_put (d := 76) (v := .d (.fl (.bool ((decide ((plc n.pts 64 ((ix n.lks j).fr)) < 0)))))) rfl (og rfl (op_move rfl rfl rfl)) ?_
          rcases fot ((decide ((plc n.pts 64 ((ix n.lks j).fr)) < 0))) with h35 | h35
          · skip
            have h36 := f_dec h35
            refine rg_put (d := 77) (v := .pt 101 0) rfl (oy rfl rfl rfl h35 (of_eff (s_field_pt rfl Tryz.underlying32 rfl ti25 rfl rfl rfl) rfl)) ?_
            refine rg_put (d := 78) (v := .d (.sl 3 (List.map ePnt n.pts))) rfl (oy rfl rfl rfl h35 (op_load_pt rfl Tryz.underlying25 rfl rfl rfl rfl rfl)) ?_
            refine rg_put (d := 79) (v := .pt 103 1) rfl (oy rfl rfl rfl h35 (of_eff (s_field_pt rfl Tryz.underlying152 rfl ti9 rfl rfl rfl) rfl)) ?_
            refine rg_put (d := 80) (v := .d (.fl (.string ((ix n.lks j).to)))) rfl (oy rfl rfl rfl h35 (op_load_pt rfl Tryz.underlying9 rfl rfl rfl rfl rfl)) ?_
            refine rg_put (d := 81) (v := .d (.fl (.int .i64 ((plc n.pts 64 ((ix n.lks j).to)))))) rfl (oy rfl rfl rfl h35 (op_call rfl Tryz.func68 nm68 rfl (.cons rfl (.d _) (.cons rfl (.d _) (.cons rfl (.d _) .nil))) (place_c n.pts 64 ((ix n.lks j).to) (by omega) (by omega)) rfl)) ?_
            refine rg_put (d := 82) (v := .d (.fl (.bool ((decide ((plc n.pts 64 ((ix n.lks j).to)) < 0)))))) rfl (oy rfl rfl rfl h35 (op_bin rfl rfl rfl (b_lss _ _ _ _) rfl)) ?_
            refine rg_put (d := 83) (v := .d (.fl (.bool ((decide ((plc n.pts 64 ((ix n.lks j).to)) < 0)))))) rfl (og rfl (op_pick rfl rfl (by rw [h35]; rfl) rfl)) ?_
            refine rg_put (d := 84) (v := .d (.fl (.bool ((decide ((plc n.pts 64 ((ix n.lks j).to)) < 0)))))) rfl (og rfl (op_move rfl rfl rfl)) ?_
            rcases fot ((decide ((plc n.pts 64 ((ix n.lks j).to)) < 0))) with h37 | h37
            · skip
              have h38 := f_dec h37
              refine rg_put (d := 85) (v := .pt 103 0) rfl (oy rfl rfl rfl h37 (of_eff (s_field_pt rfl Tryz.underlying152 rfl ti9 rfl rfl rfl) rfl)) ?_
              refine rg_put (d := 86) (v := .d (.fl (.string ((ix n.lks j).fr)))) rfl (oy rfl rfl rfl h37 (op_load_pt rfl Tryz.underlying9 rfl rfl rfl rfl rfl)) ?_
              refine rg_put (d := 87) (v := .pt 103 1) rfl (oy rfl rfl rfl h37 (of_eff (s_field_pt rfl Tryz.underlying152 rfl ti9 rfl rfl rfl) rfl)) ?_
              refine rg_put (d := 88) (v := .d (.fl (.string ((ix n.lks j).to)))) rfl (oy rfl rfl rfl h37 (op_load_pt rfl Tryz.underlying9 rfl rfl rfl rfl rfl)) ?_
              refine rg_put (d := 89) (v := .d (.fl (.bool ((sEq ((ix n.lks j).fr) ((ix n.lks j).to)))))) rfl (oy rfl rfl rfl h37 (op_bin rfl rfl rfl (b_seq _ _ _) rfl)) ?_
              refine rg_put (d := 90) (v := .d (.fl (.bool ((sEq ((ix n.lks j).fr) ((ix n.lks j).to)))))) rfl (og rfl (op_pick rfl rfl (by rw [h37]; rfl) rfl)) ?_
              refine rg_done rfl ?_
              refine a_cond rfl (fun h39 => ?_) (fun h39 => ?_)
              · skip
                refine a_rseq ?_
                refine rg_put (d := 2) (v := .d (.fl (.int .i64 16))) rfl (og rfl (op_assign rfl rfl rfl)) ?_
                refine rg_done rfl ?_
                refine a_ret ?_
                show ∃ ds, ResL _ _ _ ds ∧ RV.of ds = _
                refine ⟨[.fl (.int .i64 16)], (.cons (.tmp rfl (.d _)) .nil), ?_⟩
                have h40 : dupP n.pts (ix n.lks j).fr = true := by rw [plc_64 (by omega), h35]; rfl
                have h41 : dupP n.pts (ix n.lks j).to = true := by rw [plc_64 (by omega), h37]; rfl
                have hb : lk1 n.pts n.lks j = 16 := by unfold lk1; simp only [h1, h3, h6, h33, h35, h37, h39, h40, h41, Bool.true_or, Bool.false_or, Bool.or_true, Bool.or_false, Bool.not_true, Bool.not_false, cond_true, cond_false, Bool.true_and, Bool.false_and, Bool.and_true, Bool.and_false] <;> rfl
                rw [gck_k hlim hp0, show lkE n.pts n.lks = 16 from fe_yes (by omega) hc hb (by decide)]; rfl
              · skip
                refine a_skip ?_
                show A _ _ _ _ _ _ _
                refine a_seq ?_
                refine a_rseq ?_
                refine rg_put (d := 7) (v := .d (.fl (.int .i64 0))) rfl (og rfl (op_assign rfl rfl rfl)) ?_
                refine rg_done rfl ?_
                refine a_block ?_
                refine a_loop (ι := Nat) (fun q => SS [(0, .d (.ag (eNwk n))), (1, .pt 101 0), (3, .d (.fl (.int .i64 (k : Int)))), (5, .d (.fl (.int .i64 (j : Int)))), (6, .pt 103 0), (17, .d (.fl (.bool ((decide (128 < (n.lks.length : Int))))))), (22, .d (.fl (.bool ((decide ((k : Int) < (n.pts.length : Int))))))), (62, .d (.fl (.bool ((decide ((j : Int) < (n.lks.length : Int))))))), (90, .d (.fl (.bool ((sEq ((ix n.lks j).fr) ((ix n.lks j).to)))))), (7, .d (.fl (.int .i64 (q : Int))))] [(101, .bx 32 (eNwk n)), (103, .bx 152 ((eLnk (ix n.lks j))))]) (fun q => q ≤ j ∧ ∀ p, p < q → (sEq (ix n.lks p).fr (ix n.lks j).fr && sEq (ix n.lks p).to (ix n.lks j).to) = false) (fun q => j - q) 0 (⟨by omega, fun q h => by omega⟩) (imp_forget rfl ⟨rfl, rfl, rfl, rfl, rfl, rfl, rfl, rfl, rfl, (by first | rfl | exact ci (by omega) | exact ci (by simp) | exact cd (by simp) | simp), trivial⟩ ⟨rfl, rfl, trivial⟩) (fun q hok => ?_)
                obtain ⟨hqj, hq⟩ := hok
                refine a_seq ?_
                refine a_rseq ?_
                refine rg_put (d := 91) (v := .d (.fl (.int .i64 (q : Int)))) rfl (og rfl (op_move rfl rfl rfl)) ?_
                refine rg_put (d := 92) (v := .d (.fl (.int .i64 (j : Int)))) rfl (og rfl (op_move rfl rfl rfl)) ?_
                refine rg_put (d := 93) (v := .d (.fl (.bool ((decide ((q : Int) < (j : Int))))))) rfl (og rfl (op_bin rfl rfl rfl (b_lss _ _ _ _) rfl)) ?_
                refine rg_done rfl ?_
                refine a_cond rfl (fun h42 => ?_) (fun h42 => ?_)
                · skip
                  have h43 := t_dec h42
                  refine a_skip ?_
                  show A _ _ _ _ _ _ _
                  refine a_seq ?_
                  refine a_block ?_
                  refine a_dseq (by kernel_rfl) ?_
                  refine dr_put (d := 96) (v := .pt 101 1) rfl (og rfl (of_eff (s_field_pt rfl Tryz.underlying32 rfl ti30 rfl rfl rfl) rfl)) ?_
                  refine dr_put (d := 97) (v := .d (.sl 4 (List.map eLnk n.lks))) rfl (og rfl (op_load_pt rfl Tryz.underlying30 rfl rfl rfl rfl rfl)) ?_
                  refine dr_put (d := 98) (v := .d (.fl (.int .i64 (q : Int)))) rfl (og rfl (op_move rfl rfl rfl)) ?_
                  refine dr_put (d := 99) (v := .el ((eLnk (ix n.lks q)))) rfl (og rfl (s_index rfl Tryz.underlying30 ti152 rfl rfl (by omega) (row_at (by omega)) rfl)) ?_
                  refine dr_put (d := 100) (v := .el ((List.drop 0 ((eLnk (ix n.lks q)))))) rfl (og rfl (of_eff (s_field_el rfl Tryz.underlying152 rfl ti9 rfl rfl rfl) rfl)) ?_
                  refine dr_put (d := 101) (v := .d (.fl (.string ((ix n.lks q).fr)))) rfl (og rfl (op_load_el rfl Tryz.underlying9 rfl rfl rfl rfl)) ?_
                  refine dr_put (d := 102) (v := .pt 103 0) rfl (og rfl (of_eff (s_field_pt rfl Tryz.underlying152 rfl ti9 rfl rfl rfl) rfl)) ?_
                  refine dr_put (d := 103) (v := .d (.fl (.string ((ix n.lks j).fr)))) rfl (og rfl (op_load_pt rfl Tryz.underlying9 rfl rfl rfl rfl rfl)) ?_
                  refine dr_put (d := 104) (v := .d (.fl (.bool ((sEq ((ix n.lks q).fr) ((ix n.lks j).fr)))))) rfl (og rfl (op_bin rfl rfl rfl (b_seq _ _ _) rfl)) ?_
                  refine dr_put (d := 105) (v := .d (.fl (.bool ((sEq ((ix n.lks q).fr) ((ix n.lks j).fr)))))) rfl (og rfl (op_move rfl rfl rfl)) ?_
                  rcases fot ((sEq ((ix n.lks q).fr) ((ix n.lks j).fr))) with h44 | h44
                  · skip
                    refine dr_put (d := 106) (v := .d (.fl undef)) rfl (on rfl rfl rfl h44) ?_
                    refine dr_put (d := 107) (v := .d (.fl undef)) rfl (on rfl rfl rfl h44) ?_
                    refine dr_put (d := 108) (v := .d (.fl undef)) rfl (on rfl rfl rfl h44) ?_
                    refine dr_put (d := 109) (v := .d (.fl undef)) rfl (on rfl rfl rfl h44) ?_
                    refine dr_put (d := 110) (v := .d (.fl undef)) rfl (on rfl rfl rfl h44) ?_
                    refine dr_put (d := 111) (v := .d (.fl undef)) rfl (on rfl rfl rfl h44) ?_
                    refine dr_put (d := 112) (v := .d (.fl undef)) rfl (on rfl rfl rfl h44) ?_
                    refine dr_put (d := 113) (v := .d (.fl undef)) rfl (on rfl rfl rfl h44) ?_
                    refine dr_put (d := 114) (v := .d (.fl undef)) rfl (on rfl rfl rfl h44) ?_
                    refine dr_put (d := 115) (v := .d (.fl (.bool false))) rfl (og rfl (op_pick rfl rfl (by rw [h44]; rfl) rfl)) ?_
                    refine dr_done rfl (sepB_of [0, 1, 0, 7, 15, 31, 0, 64, 255, 511, 1023, 2047, 1023, 8191, 16383, 32767, 1023, 66559, 262143, 524287] (by kernel_rfl)) (by kernel_rfl) ?_
                    refine a_condF rfl rfl ?_
                    refine a_skip ?_
                    show A _ _ _ _ _ _ _
                    refine a_region ?_
                    refine rg_put (d := 94) (v := .d (.fl (.int .i64 (q : Int)))) rfl (og rfl (op_move rfl rfl rfl)) ?_
                    refine rg_put (d := 95) (v := .d (.fl (.int .i64 (((q : Int) + 1))))) rfl (og rfl (op_bin rfl rfl rfl (fun x y w => b_add64 _ _ _ x y w (by omega)) rfl)) ?_
                    refine rg_put (d := 7) (v := .d (.fl (.int .i64 (((q : Int) + 1))))) rfl (og rfl (op_assign rfl rfl rfl)) ?_
                    refine rg_done rfl ?_
                    have hx : (sEq (ix n.lks q).fr (ix n.lks j).fr && sEq (ix n.lks q).to (ix n.lks j).to) = false := by simp only [h1, h3, h6, h33, h35, h37, h39, h42, h44, Bool.true_or, Bool.false_or, Bool.or_true, Bool.or_false, Bool.not_true, Bool.not_false, cond_true, cond_false, Bool.true_and, Bool.false_and, Bool.and_true, Bool.and_false] <;> rfl
                    show ∃ i, _ ∧ _ ∧ Imp _ _ _ _ _
                    refine ⟨q + 1, ⟨by omega, fun q h => (Nat.lt_succ_iff_lt_or_eq.1 h).elim (hq q) (fun e => by rw [e]; exact hx)⟩, by omega, imp_forget rfl ⟨rfl, rfl, rfl, rfl, rfl, rfl, rfl, rfl, rfl, (by first | rfl | exact ci (by omega) | exact ci (by simp) | exact cd (by simp) | simp), trivial⟩ ⟨rfl, rfl, trivial⟩⟩
                  · skip
                    refine dr_put (d := 106) (v := .pt 101 1) rfl (oy rfl rfl rfl h44 (of_eff (s_field_pt rfl Tryz.underlying32 rfl ti30 rfl rfl rfl) rfl)) ?_
                    refine dr_put (d := 107) (v := .d (.sl 4 (List.map eLnk n.lks))) rfl (oy rfl rfl rfl h44 (op_load_pt rfl Tryz.underlying30 rfl rfl rfl rfl rfl)) ?_
                    refine dr_put (d := 108) (v := .d (.fl (.int .i64 (q : Int)))) rfl (oy rfl rfl rfl h44 (op_move rfl rfl rfl)) ?_
                    refine dr_put (d := 109) (v := .el ((eLnk (ix n.lks q)))) rfl (oy rfl rfl rfl h44 (s_index rfl Tryz.underlying30 ti152 rfl rfl (by omega) (row_at (by omega)) rfl)) ?_
                    refine dr_put (d := 110) (v := .el ((List.drop 1 ((eLnk (ix n.lks q)))))) rfl (oy rfl rfl rfl h44 (of_eff (s_field_el rfl Tryz.underlying152 rfl ti9 rfl rfl rfl) rfl)) ?_
                    refine dr_put (d := 111) (v := .d (.fl (.string ((ix n.lks q).to)))) rfl (oy rfl rfl rfl h44 (op_load_el rfl Tryz.underlying9 rfl rfl rfl rfl)) ?_
                    refine dr_put (d := 112) (v := .pt 103 1) rfl (oy rfl rfl rfl h44 (of_eff (s_field_pt rfl Tryz.underlying152 rfl ti9 rfl rfl rfl) rfl)) ?_
                    refine dr_put (d := 113) (v := .d (.fl (.string ((ix n.lks j).to)))) rfl (oy rfl rfl rfl h44 (op_load_pt rfl Tryz.underlying9 rfl rfl rfl rfl rfl)) ?_
                    refine dr_put (d := 114) (v := .d (.fl (.bool ((sEq ((ix n.lks q).to) ((ix n.lks j).to)))))) rfl (oy rfl rfl rfl h44 (op_bin rfl rfl rfl (b_seq _ _ _) rfl)) ?_
                    refine dr_put (d := 115) (v := .d (.fl (.bool ((sEq ((ix n.lks q).to) ((ix n.lks j).to)))))) rfl (og rfl (op_pick rfl rfl (by rw [h44]; rfl) rfl)) ?_
                    refine dr_done rfl (sepB_of [0, 1, 0, 7, 15, 31, 0, 64, 255, 511, 1023, 2047, 1023, 8191, 16383, 32767, 1023, 66559, 262143, 524287] (by kernel_rfl)) (by kernel_rfl) ?_
                    refine a_cond rfl (fun h45 => ?_) (fun h45 => ?_)
                    · skip
                      refine a_rseq ?_
                      refine rg_put (d := 2) (v := .d (.fl (.int .i64 9))) rfl (og rfl (op_assign rfl rfl rfl)) ?_
                      refine rg_done rfl ?_
                      refine a_ret ?_
                      show ∃ ds, ResL _ _ _ ds ∧ RV.of ds = _
                      refine ⟨[.fl (.int .i64 9)], (.cons (.tmp rfl (.d _)) .nil), ?_⟩
                      have hdl : dupL (n.lks.take j) (ix n.lks j).fr (ix n.lks j).to = true := dupL_yes (by omega) (by omega) h44 h45
                      have h46 : dupP n.pts (ix n.lks j).fr = true := by rw [plc_64 (by omega), h35]; rfl
                      have h47 : dupP n.pts (ix n.lks j).to = true := by rw [plc_64 (by omega), h37]; rfl
                      have hb : lk1 n.pts n.lks j = 9 := by unfold lk1; simp only [h1, h3, h6, h33, h35, h37, h39, h42, h44, h45, h46, h47, hdl, Bool.true_or, Bool.false_or, Bool.or_true, Bool.or_false, Bool.not_true, Bool.not_false, cond_true, cond_false, Bool.true_and, Bool.false_and, Bool.and_true, Bool.and_false] <;> rfl
                      rw [gck_k hlim hp0, show lkE n.pts n.lks = 9 from fe_yes (by omega) hc hb (by decide)]; rfl
                    · skip
                      refine a_skip ?_
                      show A _ _ _ _ _ _ _
                      refine a_region ?_
                      refine rg_put (d := 94) (v := .d (.fl (.int .i64 (q : Int)))) rfl (og rfl (op_move rfl rfl rfl)) ?_
                      refine rg_put (d := 95) (v := .d (.fl (.int .i64 (((q : Int) + 1))))) rfl (og rfl (op_bin rfl rfl rfl (fun x y w => b_add64 _ _ _ x y w (by omega)) rfl)) ?_
                      refine rg_put (d := 7) (v := .d (.fl (.int .i64 (((q : Int) + 1))))) rfl (og rfl (op_assign rfl rfl rfl)) ?_
                      refine rg_done rfl ?_
                      have hx : (sEq (ix n.lks q).fr (ix n.lks j).fr && sEq (ix n.lks q).to (ix n.lks j).to) = false := by simp only [h1, h3, h6, h33, h35, h37, h39, h42, h44, h45, Bool.true_or, Bool.false_or, Bool.or_true, Bool.or_false, Bool.not_true, Bool.not_false, cond_true, cond_false, Bool.true_and, Bool.false_and, Bool.and_true, Bool.and_false] <;> rfl
                      show ∃ i, _ ∧ _ ∧ Imp _ _ _ _ _
                      refine ⟨q + 1, ⟨by omega, fun q h => (Nat.lt_succ_iff_lt_or_eq.1 h).elim (hq q) (fun e => by rw [e]; exact hx)⟩, by omega, imp_forget rfl ⟨rfl, rfl, rfl, rfl, rfl, rfl, rfl, rfl, rfl, (by first | rfl | exact ci (by omega) | exact ci (by simp) | exact cd (by simp) | simp), trivial⟩ ⟨rfl, rfl, trivial⟩⟩
                · skip
                  have h48 := f_dec h42
                  refine a_exit ?_
                  show A _ _ _ _ _ _ _
                  refine a_rseq ?_
                  have hdl : (dupL (n.lks.take j) (ix n.lks j).fr (ix n.lks j).to) = false := dupL_no (by omega) (fun p h => hq p (by omega))
                  refine rg_put (d := 116) (v := .pt 103 2) rfl (og rfl (of_eff (s_field_pt rfl Tryz.underlying152 rfl ti3 rfl rfl rfl) rfl)) ?_
                  refine rg_put (d := 117) (v := .d (.fl (.int .i64 ((ix n.lks j).lo)))) rfl (og rfl (op_load_pt rfl Tryz.underlying3 rfl rfl rfl rfl rfl)) ?_
                  refine rg_put (d := 118) (v := .d (.fl (.bool ((decide ((ix n.lks j).lo < 1)))))) rfl (og rfl (op_bin rfl rfl rfl (b_lss _ _ _ _) rfl)) ?_
                  refine rg_put (d := 119) (v := .d (.fl (.bool ((decide ((ix n.lks j).lo < 1)))))) rfl (og rfl (op_move rfl rfl rfl)) ?_
                  rcases fot ((decide ((ix n.lks j).lo < 1))) with h49 | h49
                  · skip
                    have h50 := f_dec h49
                    refine rg_put (d := 120) (v := .pt 103 3) rfl (oy rfl rfl rfl h49 (of_eff (s_field_pt rfl Tryz.underlying152 rfl ti3 rfl rfl rfl) rfl)) ?_
                    refine rg_put (d := 121) (v := .d (.fl (.int .i64 ((ix n.lks j).hi)))) rfl (oy rfl rfl rfl h49 (op_load_pt rfl Tryz.underlying3 rfl rfl rfl rfl rfl)) ?_
                    refine rg_put (d := 122) (v := .pt 103 2) rfl (oy rfl rfl rfl h49 (of_eff (s_field_pt rfl Tryz.underlying152 rfl ti3 rfl rfl rfl) rfl)) ?_
                    refine rg_put (d := 123) (v := .d (.fl (.int .i64 ((ix n.lks j).lo)))) rfl (oy rfl rfl rfl h49 (op_load_pt rfl Tryz.underlying3 rfl rfl rfl rfl rfl)) ?_
                    refine rg_put (d := 124) (v := .d (.fl (.bool ((decide ((ix n.lks j).hi < (ix n.lks j).lo)))))) rfl (oy rfl rfl rfl h49 (op_bin rfl rfl rfl (b_lss _ _ _ _) rfl)) ?_
                    refine rg_put (d := 125) (v := .d (.fl (.bool ((decide ((ix n.lks j).hi < (ix n.lks j).lo)))))) rfl (og rfl (op_pick rfl rfl (by rw [h49]; rfl) rfl)) ?_
                    refine rg_put (d := 126) (v := .d (.fl (.bool ((decide ((ix n.lks j).hi < (ix n.lks j).lo)))))) rfl (og rfl (op_move rfl rfl rfl)) ?_
                    rcases fot ((decide ((ix n.lks j).hi < (ix n.lks j).lo))) with h51 | h51
                    · skip
                      have h52 := f_dec h51
                      refine rg_put (d := 127) (v := .pt 103 3) rfl (oy rfl rfl rfl h51 (of_eff (s_field_pt rfl Tryz.underlying152 rfl ti3 rfl rfl rfl) rfl)) ?_
                      refine rg_put (d := 128) (v := .d (.fl (.int .i64 ((ix n.lks j).hi)))) rfl (oy rfl rfl rfl h51 (op_load_pt rfl Tryz.underlying3 rfl rfl rfl rfl rfl)) ?_
                      refine rg_put (d := 129) (v := .d (.fl (.bool ((decide (2147483648 < (ix n.lks j).hi)))))) rfl (oy rfl rfl rfl h51 (op_bin rfl rfl rfl (b_gtr _ _ _ _) rfl)) ?_
                      refine rg_put (d := 130) (v := .d (.fl (.bool ((decide (2147483648 < (ix n.lks j).hi)))))) rfl (og rfl (op_pick rfl rfl (by rw [h51]; rfl) rfl)) ?_
                      refine rg_done rfl ?_
                      refine a_cond rfl (fun h53 => ?_) (fun h53 => ?_)
                      · skip
                        have h54 := t_dec h53
                        refine a_rseq ?_
                        refine rg_put (d := 2) (v := .d (.fl (.int .i64 12))) rfl (og rfl (op_assign rfl rfl rfl)) ?_
                        refine rg_done rfl ?_
                        refine a_ret ?_
                        show ∃ ds, ResL _ _ _ ds ∧ RV.of ds = _
                        refine ⟨[.fl (.int .i64 12)], (.cons (.tmp rfl (.d _)) .nil), ?_⟩
                        have h55 : dupP n.pts (ix n.lks j).fr = true := by rw [plc_64 (by omega), h35]; rfl
                        have h56 : dupP n.pts (ix n.lks j).to = true := by rw [plc_64 (by omega), h37]; rfl
                        have hb : lk1 n.pts n.lks j = 12 := by unfold lk1; simp only [h1, h3, h6, h33, h35, h37, h39, h42, h49, h51, h53, h55, h56, hdl, Bool.true_or, Bool.false_or, Bool.or_true, Bool.or_false, Bool.not_true, Bool.not_false, cond_true, cond_false, Bool.true_and, Bool.false_and, Bool.and_true, Bool.and_false] <;> rfl
                        rw [gck_k hlim hp0, show lkE n.pts n.lks = 12 from fe_yes (by omega) hc hb (by decide)]; rfl
                      · skip
                        have h57 := f_dec h53
                        refine a_skip ?_
                        show A _ _ _ _ _ _ _
                        refine a_region ?_
                        refine rg_put (d := 63) (v := .d (.fl (.int .i64 (j : Int)))) rfl (og rfl (op_move rfl rfl rfl)) ?_
                        refine rg_put (d := 64) (v := .d (.fl (.int .i64 (((j : Int) + 1))))) rfl (og rfl (op_bin rfl rfl rfl (fun x y w => b_add64 _ _ _ x y w (by omega)) rfl)) ?_
                        refine rg_put (d := 5) (v := .d (.fl (.int .i64 (((j : Int) + 1))))) rfl (og rfl (op_assign rfl rfl rfl)) ?_
                        refine rg_done rfl ?_
                        have h58 : dupP n.pts (ix n.lks j).fr = true := by rw [plc_64 (by omega), h35]; rfl
                        have h59 : dupP n.pts (ix n.lks j).to = true := by rw [plc_64 (by omega), h37]; rfl
                        have hb : lk1 n.pts n.lks j = 0 := by unfold lk1; simp only [h1, h3, h6, h33, h35, h37, h39, h42, h49, h51, h53, h58, h59, hdl, Bool.true_or, Bool.false_or, Bool.or_true, Bool.or_false, Bool.not_true, Bool.not_false, cond_true, cond_false, Bool.true_and, Bool.false_and, Bool.and_true, Bool.and_false] <;> rfl
                        show ∃ i, _ ∧ _ ∧ Imp _ _ _ _ _
                        refine ⟨j + 1, ⟨by omega, fe_no (by omega) hc hb⟩, by omega, imp_forget rfl ⟨rfl, rfl, rfl, rfl, rfl, (by first | rfl | exact ci (by omega) | exact ci (by simp) | exact cd (by simp) | simp), trivial⟩ ⟨rfl, trivial⟩⟩
                    · skip
                      have h60 := t_dec h51
                      refine rg_put (d := 127) (v := .d (.fl undef)) rfl (on rfl rfl rfl h51) ?_
                      refine rg_put (d := 128) (v := .d (.fl undef)) rfl (on rfl rfl rfl h51) ?_
                      refine rg_put (d := 129) (v := .d (.fl undef)) rfl (on rfl rfl rfl h51) ?_
                      refine rg_put (d := 130) (v := .d (.fl (.bool true))) rfl (og rfl (op_pick rfl rfl (by rw [h51]; rfl) rfl)) ?_
                      refine rg_done rfl ?_
                      refine a_condK rfl rfl ?_
                      refine a_rseq ?_
                      refine rg_put (d := 2) (v := .d (.fl (.int .i64 12))) rfl (og rfl (op_assign rfl rfl rfl)) ?_
                      refine rg_done rfl ?_
                      refine a_ret ?_
                      show ∃ ds, ResL _ _ _ ds ∧ RV.of ds = _
                      refine ⟨[.fl (.int .i64 12)], (.cons (.tmp rfl (.d _)) .nil), ?_⟩
                      have h61 : dupP n.pts (ix n.lks j).fr = true := by rw [plc_64 (by omega), h35]; rfl
                      have h62 : dupP n.pts (ix n.lks j).to = true := by rw [plc_64 (by omega), h37]; rfl
                      have hb : lk1 n.pts n.lks j = 12 := by unfold lk1; simp only [h1, h3, h6, h33, h35, h37, h39, h42, h49, h51, h61, h62, hdl, Bool.true_or, Bool.false_or, Bool.or_true, Bool.or_false, Bool.not_true, Bool.not_false, cond_true, cond_false, Bool.true_and, Bool.false_and, Bool.and_true, Bool.and_false] <;> rfl
                      rw [gck_k hlim hp0, show lkE n.pts n.lks = 12 from fe_yes (by omega) hc hb (by decide)]; rfl
                  · skip
                    have h63 := t_dec h49
                    refine rg_put (d := 120) (v := .d (.fl undef)) rfl (on rfl rfl rfl h49) ?_
                    refine rg_put (d := 121) (v := .d (.fl undef)) rfl (on rfl rfl rfl h49) ?_
                    refine rg_put (d := 122) (v := .d (.fl undef)) rfl (on rfl rfl rfl h49) ?_
                    refine rg_put (d := 123) (v := .d (.fl undef)) rfl (on rfl rfl rfl h49) ?_
                    refine rg_put (d := 124) (v := .d (.fl undef)) rfl (on rfl rfl rfl h49) ?_
                    refine rg_put (d := 125) (v := .d (.fl (.bool true))) rfl (og rfl (op_pick rfl rfl (by rw [h49]; rfl) rfl)) ?_
                    refine rg_put (d := 126) (v := .d (.fl (.bool true))) rfl (og rfl (op_move rfl rfl rfl)) ?_
                    refine rg_put (d := 127) (v := .d (.fl undef)) rfl (on rfl rfl rfl rfl) ?_
                    refine rg_put (d := 128) (v := .d (.fl undef)) rfl (on rfl rfl rfl rfl) ?_
                    refine rg_put (d := 129) (v := .d (.fl undef)) rfl (on rfl rfl rfl rfl) ?_
                    refine rg_put (d := 130) (v := .d (.fl (.bool true))) rfl (og rfl (op_pick rfl rfl rfl rfl)) ?_
                    refine rg_done rfl ?_
                    refine a_condK rfl rfl ?_
                    refine a_rseq ?_
                    refine rg_put (d := 2) (v := .d (.fl (.int .i64 12))) rfl (og rfl (op_assign rfl rfl rfl)) ?_
                    refine rg_done rfl ?_
                    refine a_ret ?_
                    show ∃ ds, ResL _ _ _ ds ∧ RV.of ds = _
                    refine ⟨[.fl (.int .i64 12)], (.cons (.tmp rfl (.d _)) .nil), ?_⟩
                    have h64 : dupP n.pts (ix n.lks j).fr = true := by rw [plc_64 (by omega), h35]; rfl
                    have h65 : dupP n.pts (ix n.lks j).to = true := by rw [plc_64 (by omega), h37]; rfl
                    have hb : lk1 n.pts n.lks j = 12 := by unfold lk1; simp only [h1, h3, h6, h33, h35, h37, h39, h42, h49, h64, h65, hdl, Bool.true_or, Bool.false_or, Bool.or_true, Bool.or_false, Bool.not_true, Bool.not_false, cond_true, cond_false, Bool.true_and, Bool.false_and, Bool.and_true, Bool.and_false] <;> rfl
                    rw [gck_k hlim hp0, show lkE n.pts n.lks = 12 from fe_yes (by omega) hc hb (by decide)]; rfl
            · skip
              have h66 := t_dec h37
              refine rg_put (d := 85) (v := .d (.fl undef)) rfl (on rfl rfl rfl h37) ?_
              refine rg_put (d := 86) (v := .d (.fl undef)) rfl (on rfl rfl rfl h37) ?_
              refine rg_put (d := 87) (v := .d (.fl undef)) rfl (on rfl rfl rfl h37) ?_
              refine rg_put (d := 88) (v := .d (.fl undef)) rfl (on rfl rfl rfl h37) ?_
              refine rg_put (d := 89) (v := .d (.fl undef)) rfl (on rfl rfl rfl h37) ?_
              refine rg_put (d := 90) (v := .d (.fl (.bool true))) rfl (og rfl (op_pick rfl rfl (by rw [h37]; rfl) rfl)) ?_
              refine rg_done rfl ?_
              refine a_condK rfl rfl ?_
              refine a_rseq ?_
              refine rg_put (d := 2) (v := .d (.fl (.int .i64 16))) rfl (og rfl (op_assign rfl rfl rfl)) ?_
              refine rg_done rfl ?_
              refine a_ret ?_
              show ∃ ds, ResL _ _ _ ds ∧ RV.of ds = _
              refine ⟨[.fl (.int .i64 16)], (.cons (.tmp rfl (.d _)) .nil), ?_⟩
              have h67 : dupP n.pts (ix n.lks j).fr = true := by rw [plc_64 (by omega), h35]; rfl
              have h68 : dupP n.pts (ix n.lks j).to = false := by rw [plc_64 (by omega), h37]; rfl
              have hb : lk1 n.pts n.lks j = 16 := by unfold lk1; simp only [h1, h3, h6, h33, h35, h37, h67, h68, Bool.true_or, Bool.false_or, Bool.or_true, Bool.or_false, Bool.not_true, Bool.not_false, cond_true, cond_false, Bool.true_and, Bool.false_and, Bool.and_true, Bool.and_false] <;> rfl
              rw [gck_k hlim hp0, show lkE n.pts n.lks = 16 from fe_yes (by omega) hc hb (by decide)]; rfl
          · skip
            have h69 := t_dec h35
            refine rg_put (d := 77) (v := .d (.fl undef)) rfl (on rfl rfl rfl h35) ?_
            refine rg_put (d := 78) (v := .d (.fl undef)) rfl (on rfl rfl rfl h35) ?_
            refine rg_put (d := 79) (v := .d (.fl undef)) rfl (on rfl rfl rfl h35) ?_
            refine rg_put (d := 80) (v := .d (.fl undef)) rfl (on rfl rfl rfl h35) ?_
            refine rg_put (d := 81) (v := .d (.fl undef)) rfl (on rfl rfl rfl h35) ?_
            refine rg_put (d := 82) (v := .d (.fl undef)) rfl (on rfl rfl rfl h35) ?_
            refine rg_put (d := 83) (v := .d (.fl (.bool true))) rfl (og rfl (op_pick rfl rfl (by rw [h35]; rfl) rfl)) ?_
            refine rg_put (d := 84) (v := .d (.fl (.bool true))) rfl (og rfl (op_move rfl rfl rfl)) ?_
            refine rg_put (d := 85) (v := .d (.fl undef)) rfl (on rfl rfl rfl rfl) ?_
            refine rg_put (d := 86) (v := .d (.fl undef)) rfl (on rfl rfl rfl rfl) ?_
            refine rg_put (d := 87) (v := .d (.fl undef)) rfl (on rfl rfl rfl rfl) ?_
            refine rg_put (d := 88) (v := .d (.fl undef)) rfl (on rfl rfl rfl rfl) ?_
            refine rg_put (d := 89) (v := .d (.fl undef)) rfl (on rfl rfl rfl rfl) ?_
            refine rg_put (d := 90) (v := .d (.fl (.bool true))) rfl (og rfl (op_pick rfl rfl rfl rfl)) ?_
            refine rg_done rfl ?_
            refine a_condK rfl rfl ?_
            refine a_rseq ?_
            refine rg_put (d := 2) (v := .d (.fl (.int .i64 16))) rfl (og rfl (op_assign rfl rfl rfl)) ?_
            refine rg_done rfl ?_
            refine a_ret ?_
            show ∃ ds, ResL _ _ _ ds ∧ RV.of ds = _
            refine ⟨[.fl (.int .i64 16)], (.cons (.tmp rfl (.d _)) .nil), ?_⟩
            have h70 : dupP n.pts (ix n.lks j).fr = false := by rw [plc_64 (by omega), h35]; rfl
            have hb : lk1 n.pts n.lks j = 16 := by unfold lk1; simp only [h1, h3, h6, h33, h35, h70, Bool.true_or, Bool.false_or, Bool.or_true, Bool.or_false, Bool.not_true, Bool.not_false, cond_true, cond_false, Bool.true_and, Bool.false_and, Bool.and_true, Bool.and_false] <;> rfl
            rw [gck_k hlim hp0, show lkE n.pts n.lks = 16 from fe_yes (by omega) hc hb (by decide)]; rfl
        · skip
          have h71 := f_dec h33
          refine a_exit ?_
          show A _ _ _ _ _ _ _
          refine a_rseq ?_
          refine rg_put (d := 2) (v := .d (.fl (.int .i64 0))) rfl (og rfl (op_assign rfl rfl rfl)) ?_
          refine rg_done rfl ?_
          refine a_ret ?_
          show ∃ ds, ResL _ _ _ ds ∧ RV.of ds = _
          refine ⟨[.fl (.int .i64 0)], (.cons (.tmp rfl (.d _)) .nil), ?_⟩
          rw [gck_k hlim hp0, show lkE n.pts n.lks = 0 from by rw [fe_end (by omega)] at hc; exact hc]; rfl
  · skip
    have h72 := t_dec h1
    refine rg_put (d := 13) (v := .d (.fl undef)) rfl (on rfl rfl rfl h1) ?_
    refine rg_put (d := 14) (v := .d (.fl undef)) rfl (on rfl rfl rfl h1) ?_
    refine rg_put (d := 15) (v := .d (.fl undef)) rfl (on rfl rfl rfl h1) ?_
    refine rg_put (d := 16) (v := .d (.fl undef)) rfl (on rfl rfl rfl h1) ?_
    refine rg_put (d := 17) (v := .d (.fl (.bool true))) rfl (og rfl (op_pick rfl rfl (by rw [h1]; rfl) rfl)) ?_
    refine rg_done rfl ?_
    refine a_condK rfl rfl ?_
    refine a_rseq ?_
    refine rg_put (d := 2) (v := .d (.fl (.int .i64 3))) rfl (og rfl (op_assign rfl rfl rfl)) ?_
    refine rg_done rfl ?_
    refine a_ret ?_
    show ∃ ds, ResL _ _ _ ds ∧ RV.of ds = _
    refine ⟨[.fl (.int .i64 3)], (.cons (.tmp rfl (.d _)) .nil), ?_⟩
    rw [gck_l (by simp only [h1, Bool.true_or, Bool.false_or, Bool.or_true, Bool.or_false, Bool.not_true, Bool.not_false, cond_true, cond_false, Bool.true_and, Bool.false_and, Bool.and_true, Bool.and_false] <;> rfl)]; rfl
theorem fe_zero {f : Nat → Int} : ∀ {n i : Nat}, fe f i n = 0 → ∀ k, i ≤ k → k < i + n → f k = 0
  | 0, i, h, k, h1, h2 => by omega
  | n + 1, i, h, k, h1, h2 => by
    unfold fe at h
    split at h
    · rename_i h0
      rcases Nat.eq_or_lt_of_le h1 with e | e
      · subst e; exact h0
      · exact fe_zero h k (by omega) (by omega)
    · rename_i h0; exact absurd h h0
theorem gck_0 {n : Nwk} (h : gck n = 0) : n.pts.length ≤ 64 ∧ n.lks.length ≤ 128 ∧ (∀ k, k < n.pts.length → pt1 n.pts k = 0) ∧ ∀ k, k < n.lks.length → lk1 n.pts n.lks k = 0 := by
  unfold gck at h
  cases h1 : (decide (64 < (n.pts.length : Int)) || decide (128 < (n.lks.length : Int))) with
  | true => rw [h1] at h; cases h
  | false =>
    rw [h1] at h
    simp only [Bool.or_eq_false_iff, decide_eq_false_iff_not] at h1
    cases h2 : (ptE n.pts != 0) with
    | true => rw [h2] at h; exact absurd h (by simpa using h2)
    | false =>
      rw [h2] at h
      have h2' : ptE n.pts = 0 := by simpa using h2
      exact ⟨by omega, by omega, fun k hk => fe_zero h2' k (by omega) (by omega), fun k hk => fe_zero h k (by omega) (by omega)⟩

def so (a b : Src) : Int := fz [sc a.dev b.dev, ic a.seq b.seq]
structure szP (x : Psg) : Prop where
  i : x.id.size ≤ 80
  p : x.point.size ≤ 40
  t : x.tag.size ≤ 40
  l : x.plate.size ≤ 40
  n : x.src.length ≤ 30
  d : ∀ q, q < x.src.length → (ix x.src q).dev.size ≤ 40

def oneB (x : Psg) : Bool := ((((decide ((x.id.size : Int) ≤ 80) && decide ((x.point.size : Int) ≤ 40)) && decide ((x.tag.size : Int) ≤ 40)) && decide ((x.plate.size : Int) ≤ 40)) && decide ((x.src.length : Int) ≤ 30)) && !(x.src.any fun y => decide (40 < (y.dev.size : Int)))
theorem one_sz {x : Psg} (h : oneB x = true) : szP x := by
  simp only [oneB, Bool.and_eq_true, Bool.not_eq_true', decide_eq_true_eq, List.any_eq_false] at h
  refine ⟨by omega, by omega, by omega, by omega, by omega, fun q hq => ?_⟩
  have := h.2 _ (ix_mem hq)
  omega
theorem one_n {x : Psg} {k : Nat} (hk : k < x.src.length) (h : decide (40 < ((ix x.src k).dev.size : Int)) = true) : oneB x = false := by unfold oneB; rw [any_at (p := fun y : Src => decide (40 < (y.dev.size : Int))) hk h]; simp
theorem one_y {x : Psg} (hq : ∀ q, q < x.src.length → decide (40 < ((ix x.src q).dev.size : Int)) = false) : oneB x = ((((decide ((x.id.size : Int) ≤ 80) && decide ((x.point.size : Int) ≤ 40)) && decide ((x.tag.size : Int) ≤ 40)) && decide ((x.plate.size : Int) ≤ 40)) && decide ((x.src.length : Int) ≤ 30)) := by unfold oneB; rw [any_no (p := fun y : Src => decide (40 < (y.dev.size : Int))) hq]; simp

def em : ByteArray := ⟨#[]⟩
def orT : List ByteArray → ByteArray
  | [] => em
  | x :: r => bif !(sEq x em) then x else orT r
theorem orT_drop : ∀ (l : List ByteArray) (k : Nat), (∀ q, q < k → sEq (ix l q) em = true) → k ≤ l.length → orT l = orT (l.drop k)
  | l, 0, _, _ => by rw [List.drop_zero]
  | [], k + 1, _, h => by simp at h
  | x :: r, k + 1, hq, hk => by
    have h0 : sEq x em = true := hq 0 (by omega)
    have ih := orT_drop r k (fun q h => hq (q + 1) (by omega)) (by simpa using hk)
    rw [List.drop_succ_cons, ← ih]
    simp only [orT, h0, Bool.not_true, cond_false]
theorem orT_at {l : List ByteArray} {k : Nat} (hk : k < l.length) (hq : ∀ q, q < k → sEq (ix l q) em = true) (h : sEq (ix l k) em = false) : orT l = ix l k := by
  rw [orT_drop l k hq (by omega), List.drop_eq_getElem_cons hk, ix_eq hk]
  simp only [orT, h, Bool.not_false, cond_true]
theorem orT_no {l : List ByteArray} (hq : ∀ q, q < l.length → sEq (ix l q) em = true) : orT l = em := by
  rw [orT_drop l l.length hq (Nat.le_refl _), List.drop_length]; rfl

noncomputable def vlN (n : Nwk) : Nwk := bif gck n != 0 then ⟨[], []⟩ else n
noncomputable def gfE (n : Nwk) (s : ByteArray) : Pnt × Bool := bif decide (plc (vlN n).pts 64 s < 0) then (⟨⟨#[]⟩, 0, ⟨#[]⟩⟩, false) else (ix (vlN n).pts (plc (vlN n).pts 64 s).toNat, true)
theorem vl_bad {n : Nwk} (h : (gck n != 0) = true) : vlN n = ⟨[], []⟩ := by unfold vlN; rw [h]; rfl
theorem vl_ok {n : Nwk} (h : (gck n != 0) = false) : vlN n = n := by unfold vlN; rw [h]; rfl
theorem gf_none {n : Nwk} {s : ByteArray} (h : plc (vlN n).pts 64 s < 0) : gfE n s = (⟨⟨#[]⟩, 0, ⟨#[]⟩⟩, false) := by unfold gfE; rw [decide_eq_true h]; rfl
theorem gf_some {n : Nwk} {s : ByteArray} (h : ¬ plc (vlN n).pts 64 s < 0) : gfE n s = (ix (vlN n).pts (plc (vlN n).pts 64 s).toNat, true) := by unfold gfE; rw [decide_eq_false h]; rfl
theorem plc_nil (s : ByteArray) : plc [] 64 s = -1 := rfl
theorem plc_in {l : List Pnt} {s : ByteArray} (h : ¬ plc l 64 s < 0) : (plc l 64 s).toNat < l.length := by
  unfold plc at h ⊢
  cases e : (l.take 64).findIdx? (fun x => sEq x.name s) with
  | none => rw [e] at h; exact absurd (by show (-1 : Int) < 0; omega) h
  | some i =>
    rw [List.findIdx?_eq_some_iff_getElem] at e
    obtain ⟨h1, _⟩ := e
    rw [List.length_take] at h1
    show ((i : Int)).toNat < _
    omega
theorem bneb {a b : Int} {c : Bool} (h : (a != b) = c) : (a == b) = !c := by rw [← h]; simp [bne]
theorem vl_len (n : Nwk) : (vlN n).pts.length ≤ 64 := by
  cases h : (gck n != 0) with
  | true => rw [vl_bad h]; simp
  | false => rw [vl_ok h]; exact (gck_0 (f_bne h)).1
def nrmB (s : ByteArray) : Bool := (nmI s == 0) && sEq (nmS s) s
def isT (t : Int) : Bool := decide (0 ≤ t) && decide (t < 68719476736)
theorem isT_y {t : Int} (h : 0 ≤ t ∧ t < 68719476736) : isT t = true := by unfold isT; rw [decide_eq_true h.1, decide_eq_true h.2]; rfl
theorem isT_n {t : Int} (h : ¬ (0 ≤ t ∧ t < 68719476736)) : isT t = false := by
  cases e : isT t with
  | false => rfl
  | true =>
    unfold isT at e
    simp only [Bool.and_eq_true, decide_eq_true_eq] at e
    exact absurd e h
noncomputable def sr1 (l : List Src) (k : Nat) : Int := bif !(Nm.nmB (ix l k).dev) then 6 else bif (decide ((ix l k).seq < 0) || decide (2147483648 < (ix l k).seq)) then 2 else bif (decide (0 < (k : Int)) && decide (0 ≤ so (ix l ((k : Int) - 1).toNat) (ix l k))) then 15 else 0
noncomputable def srE (l : List Src) : Int := fe (sr1 l) 0 l.length
noncomputable def csE (l : List Src) : Int := bif (decide ((l.length : Int) < 1) || decide (24 < (l.length : Int))) then 3 else srE l
theorem cs_l {l : List Src} (h : (decide ((l.length : Int) < 1) || decide (24 < (l.length : Int))) = true) : csE l = 3 := by unfold csE; rw [h]; rfl
theorem cs_s {l : List Src} (h : (decide ((l.length : Int) < 1) || decide (24 < (l.length : Int))) = false) : csE l = srE l := by unfold csE; rw [h]; rfl
def idS (p : Psg) : ByteArray := bif ((p.src.length : Int) == 0) then ⟨#[]⟩ else ((ix p.src 0).dev ++ ⟨#[46]⟩) ++ Om.fmt (ix p.src 0).seq
noncomputable def pck (p : Psg) (n : Nwk) : Int := bif !(gfE n p.point).2 then 16 else bif !(isT p.time) then 12 else bif (sEq p.tag ⟨#[]⟩ && sEq p.plate ⟨#[]⟩) then 1 else bif (!(sEq p.tag ⟨#[]⟩) && (Tm.ck p.tag != 0)) then Tm.ck p.tag else bif (!(sEq p.plate ⟨#[]⟩) && !(nrmB p.plate)) then 19 else bif (decide (p.cls < 0) || decide (9 < p.cls)) then 20 else bif (decide (p.score < 0) || decide (1000 < p.score)) then 1 else bif csE p.src != 0 then csE p.src else bif !(sEq p.id (idS p)) then 6 else 0
theorem fmt_sz {n : Int} (h : -9223372036854775808 ≤ n ∧ n ≤ 9223372036854775807) : (Om.fmt n).size ≤ 21 := by
  have := Lib.itoa_length_le n h.1 h.2
  show ((Lib.itoa n).toArray).size ≤ 21
  simpa using this
def vhS (p : Psg) : ByteArray := bif !(sEq p.tag ⟨#[]⟩) then p.tag else p.plate
theorem vh_or (p : Psg) : orT [p.tag, p.plate] = vhS p := by
  unfold vhS
  show orT (p.tag :: [p.plate]) = _
  rw [orT, show em = (⟨#[]⟩ : ByteArray) from rfl]
  cases h : sEq p.tag ⟨#[]⟩ with
  | false => rfl
  | true =>
    show orT [p.plate] = p.plate
    rw [orT, show em = (⟨#[]⟩ : ByteArray) from rfl]
    cases h2 : sEq p.plate ⟨#[]⟩ with
    | false => rfl
    | true => exact (sEq_eq h2).symm

def K2 (w : World) (U : Nat → Nat) : Prop := KK w U ∧ Ow.Tb w
theorem k2st : KSt K2 := kst_and kkst (kst_w (T := Ow.Tb) (fun w w' h hb => Ow.Tb.next h hb))
theorem k2_of {f : FuncId} {args : List DV} {r : RV} (h : CtrK Tryz.prog KK f args r) : CtrK Tryz.prog K2 f args r := fun vals U w hK hR => h vals U w hK.1 hR
theorem fmtC (n : Int) (hn : -9223372036854775808 ≤ n ∧ n ≤ 9223372036854775807) : CtrK Tryz.prog K2 72 [.fl (.int .i64 n)] (.d (.fl (.string (Om.fmt n)))) := ctrK_flat [.int .i64 n] (fun w U hK => Ow.format21 n w hn hK.2)
theorem fmtR (n : Int) (hn : -9223372036854775808 ≤ n ∧ n ≤ 9223372036854775807) : Ctr Tryz.prog 36 [.fl (.int .i64 n)] (.d (.fl (.string (Om.fmt n)))) := ctr_flat [.int .i64 n] (fun w => Ow.format22 n w hn)

theorem tagC27 (s : ByteArray) : Ctr Tryz.prog 27 [.fl (.string s)] (.d (.fl (.int .i64 (Tm.ck s)))) := ctr_flat [.string s] (fun w => Tk.check15 s w)
theorem tagC32 (s : ByteArray) : Ctr Tryz.prog 32 [.fl (.string s)] (.d (.fl (.int .i64 (Tm.ck s)))) := ctr_flat [.string s] (fun w => Tk.check16 s w)
set_option maxHeartbeats 4000000 in
set_option maxRecDepth 100000 in
theorem soC (a b : Src) : Ctr Tryz.prog 66 [.ag (eSrc a), .ag (eSrc b)] (.d (.fl (.int .i64 (so a b)))) := by
  refine ctr (n := 17) (rs := #[.tmp 4]) (L := [(0, .d (.ag (eSrc a))), (1, .d (.ag (eSrc b)))]) Tryz.func66 rfl rfl rfl rfl rfl (fun w0 U0 => ?_)
  refine a_rseq ?_
  refine rg_nam (d := 2) (v := .pt 101 0) (m := 101) (nw := [(101, .bx 51 (eSrc a))]) rfl (og rfl (of_eff (op_box 101 rfl rfl rfl rfl) rfl)) rfl ?_
  refine rg_nam (d := 3) (v := .pt 102 0) (m := 102) (nw := [(102, .bx 51 (eSrc b))]) rfl (og rfl (of_eff (op_box 102 rfl rfl rfl rfl) rfl)) rfl ?_
  refine rg_put (d := 4) (v := .d (.fl (.int .i64 0))) rfl (og rfl (op_assign rfl rfl rfl)) ?_
  refine rg_done rfl ?_
  refine a_dseq (by kernel_rfl) ?_
  refine dr_put (d := 5) (v := .pt 101 0) rfl (og rfl (of_eff (s_field_pt rfl Tryz.underlying51 rfl ti9 rfl rfl rfl) rfl)) ?_
  refine dr_put (d := 6) (v := .d (.fl (.string a.dev))) rfl (og rfl (op_load_pt rfl Tryz.underlying9 rfl rfl rfl rfl rfl)) ?_
  refine dr_put (d := 7) (v := .pt 102 0) rfl (og rfl (of_eff (s_field_pt rfl Tryz.underlying51 rfl ti9 rfl rfl rfl) rfl)) ?_
  refine dr_put (d := 8) (v := .d (.fl (.string b.dev))) rfl (og rfl (op_load_pt rfl Tryz.underlying9 rfl rfl rfl rfl rfl)) ?_
  refine dr_put (d := 9) (v := .d (.fl (.int .i64 (sc a.dev b.dev)))) rfl (og rfl (op_call rfl Tryz.func80 nm80 rfl (.cons rfl (.d _) (.cons rfl (.d _) .nil)) (scC a.dev b.dev) rfl)) ?_
  refine dr_put (d := 10) (v := .pt 101 1) rfl (og rfl (of_eff (s_field_pt rfl Tryz.underlying51 rfl ti3 rfl rfl rfl) rfl)) ?_
  refine dr_put (d := 11) (v := .d (.fl (.int .i64 a.seq))) rfl (og rfl (op_load_pt rfl Tryz.underlying3 rfl rfl rfl rfl rfl)) ?_
  refine dr_put (d := 12) (v := .pt 102 1) rfl (og rfl (of_eff (s_field_pt rfl Tryz.underlying51 rfl ti3 rfl rfl rfl) rfl)) ?_
  refine dr_put (d := 13) (v := .d (.fl (.int .i64 b.seq))) rfl (og rfl (op_load_pt rfl Tryz.underlying3 rfl rfl rfl rfl rfl)) ?_
  refine dr_put (d := 14) (v := .d (.fl (.int .i64 (ic a.seq b.seq)))) rfl (og rfl (op_call rfl Tryz.func78 nm78 rfl (.cons rfl (.d _) (.cons rfl (.d _) .nil)) (icC a.seq b.seq) rfl)) ?_
  refine dr_put (d := 15) (v := .d (.sl 1 (List.map (rI .i64) [(sc a.dev b.dev), (ic a.seq b.seq)]))) rfl (og rfl (of_eff (op_slices rfl Tryz.underlying139 ti3 rfl rfl rfl (by kernel_rfl) (xs := [.fl (.int .i64 (sc a.dev b.dev)), .fl (.int .i64 (ic a.seq b.seq))]) rfl rfl (.cons rfl rfl (.d _) rfl rfl rfl (.cons rfl rfl (.d _) rfl rfl rfl .nil)) rfl) rfl)) ?_
  refine dr_put (d := 16) (v := .d (.fl (.int .i64 ((fz [(sc a.dev b.dev), (ic a.seq b.seq)]))))) rfl (og rfl (op_call rfl Tryz.func79 nm79 rfl (.cons rfl (.d _) .nil) (orC [(sc a.dev b.dev), (ic a.seq b.seq)] (by simp)) rfl)) ?_
  refine dr_put (d := 4) (v := .d (.fl (.int .i64 ((fz [(sc a.dev b.dev), (ic a.seq b.seq)]))))) rfl (og rfl (op_assign rfl rfl rfl)) ?_
  refine dr_done rfl (by kernel_rfl) (by kernel_rfl) ?_
  refine a_ret ?_
  show ∃ ds, ResL _ _ _ ds ∧ RV.of ds = _
  refine ⟨[.fl (.int .i64 ((fz [(sc a.dev b.dev), (ic a.seq b.seq)])))], (.cons (.tmp rfl (.d _)) .nil), ?_⟩
  rfl
set_option maxHeartbeats 4000000 in
set_option maxRecDepth 100000 in
theorem soR (a b : Src) (ha : a.dev.size ≤ 40) (hb : b.dev.size ≤ 40) : Ctr Tryz.prog 71 [.ag (eSrc a), .ag (eSrc b)] (.d (.fl (.int .i64 (so a b)))) := by
  refine ctr (n := 20) (rs := #[.tmp 4]) (L := [(0, .d (.ag (eSrc a))), (1, .d (.ag (eSrc b)))]) Tryz.func71 rfl rfl rfl rfl rfl (fun w0 U0 => ?_)
  refine a_rseq ?_
  refine rg_nam (d := 2) (v := .pt 101 0) (m := 101) (nw := [(101, .bx 51 (eSrc a))]) rfl (og rfl (of_eff (op_box 101 rfl rfl rfl rfl) rfl)) rfl ?_
  refine rg_nam (d := 3) (v := .pt 102 0) (m := 102) (nw := [(102, .bx 51 (eSrc b))]) rfl (og rfl (of_eff (op_box 102 rfl rfl rfl rfl) rfl)) rfl ?_
  refine rg_put (d := 4) (v := .d (.fl (.int .i64 0))) rfl (og rfl (op_assign rfl rfl rfl)) ?_
  refine rg_done rfl ?_
  refine a_seq ?_
  refine a_rseq ?_
  refine rg_put (d := 5) (v := .pt 101 0) rfl (og rfl (of_eff (s_field_pt rfl Tryz.underlying51 rfl ti9 rfl rfl rfl) rfl)) ?_
  refine rg_put (d := 6) (v := .d (.fl (.string a.dev))) rfl (og rfl (op_load_pt rfl Tryz.underlying9 rfl rfl rfl rfl rfl)) ?_
  refine rg_put (d := 7) (v := .pt 102 0) rfl (og rfl (of_eff (s_field_pt rfl Tryz.underlying51 rfl ti9 rfl rfl rfl) rfl)) ?_
  refine rg_put (d := 8) (v := .d (.fl (.string b.dev))) rfl (og rfl (op_load_pt rfl Tryz.underlying9 rfl rfl rfl rfl rfl)) ?_
  refine rg_put (d := 9) (v := .d (.fl (.bool ((!(sEq a.dev b.dev)))))) rfl (og rfl (op_bin rfl rfl rfl (b_sne _ _ _) rfl)) ?_
  refine rg_done rfl ?_
  refine a_cond rfl (fun h1 => ?_) (fun h1 => ?_)
  · skip
    have h2 := t_not h1
    refine a_rseq ?_
    refine rg_put (d := 10) (v := .pt 101 0) rfl (og rfl (of_eff (s_field_pt rfl Tryz.underlying51 rfl ti9 rfl rfl rfl) rfl)) ?_
    refine rg_put (d := 11) (v := .d (.fl (.string a.dev))) rfl (og rfl (op_load_pt rfl Tryz.underlying9 rfl rfl rfl rfl rfl)) ?_
    refine rg_put (d := 12) (v := .pt 102 0) rfl (og rfl (of_eff (s_field_pt rfl Tryz.underlying51 rfl ti9 rfl rfl rfl) rfl)) ?_
    refine rg_put (d := 13) (v := .d (.fl (.string b.dev))) rfl (og rfl (op_load_pt rfl Tryz.underlying9 rfl rfl rfl rfl rfl)) ?_
    refine rg_put (d := 14) (v := .d (.fl (.int .i64 (sc a.dev b.dev)))) rfl (og rfl (op_call rfl Tryz.func108 nm108 rfl (.cons rfl (.d _) (.cons rfl (.d _) .nil)) (scR0 a.dev b.dev (by omega) (by omega)) rfl)) ?_
    refine rg_put (d := 4) (v := .d (.fl (.int .i64 (sc a.dev b.dev)))) rfl (og rfl (op_assign rfl rfl rfl)) ?_
    refine rg_done rfl ?_
    refine a_ret ?_
    show ∃ ds, ResL _ _ _ ds ∧ RV.of ds = _
    refine ⟨[.fl (.int .i64 (sc a.dev b.dev))], (.cons (.tmp rfl (.d _)) .nil), ?_⟩
    have hn : (sc a.dev b.dev != 0) = true := by rw [bne_iff_ne]; rcases sc_cases a.dev b.dev with h | h | h <;> first | omega | (have := sEq_of h.2; rw [h2] at this; cases this)
    rw [show so a b = sc a.dev b.dev from by unfold so fz; rw [hn]; rfl]; rfl
  · skip
    have h3 := f_not h1
    refine a_skip ?_
    show A _ _ _ _ _ _ _
    refine a_rseq ?_
    refine rg_put (d := 15) (v := .pt 101 1) rfl (og rfl (of_eff (s_field_pt rfl Tryz.underlying51 rfl ti3 rfl rfl rfl) rfl)) ?_
    refine rg_put (d := 16) (v := .d (.fl (.int .i64 a.seq))) rfl (og rfl (op_load_pt rfl Tryz.underlying3 rfl rfl rfl rfl rfl)) ?_
    refine rg_put (d := 17) (v := .pt 102 1) rfl (og rfl (of_eff (s_field_pt rfl Tryz.underlying51 rfl ti3 rfl rfl rfl) rfl)) ?_
    refine rg_put (d := 18) (v := .d (.fl (.int .i64 b.seq))) rfl (og rfl (op_load_pt rfl Tryz.underlying3 rfl rfl rfl rfl rfl)) ?_
    refine rg_put (d := 19) (v := .d (.fl (.int .i64 (ic a.seq b.seq)))) rfl (og rfl (op_call rfl Tryz.func109 nm109 rfl (.cons rfl (.d _) (.cons rfl (.d _) .nil)) (icR0 a.seq b.seq) rfl)) ?_
    refine rg_put (d := 4) (v := .d (.fl (.int .i64 (ic a.seq b.seq)))) rfl (og rfl (op_assign rfl rfl rfl)) ?_
    refine rg_done rfl ?_
    refine a_ret ?_
    show ∃ ds, ResL _ _ _ ds ∧ RV.of ds = _
    refine ⟨[.fl (.int .i64 (ic a.seq b.seq))], (.cons (.tmp rfl (.d _)) .nil), ?_⟩
    have hn : sc a.dev b.dev = 0 := by unfold sc; rw [h3]; rfl
    rw [show so a b = ic a.seq b.seq from by unfold so fz; rw [hn]; unfold fz; cases h : (ic a.seq b.seq != 0) <;> simp at h ⊢ <;> first | rfl | (rw [h]; rfl)]; rfl
set_option maxHeartbeats 4000000 in
set_option maxRecDepth 100000 in
theorem gfC (n : Nwk) (s : ByteArray) : Ctr Tryz.prog 26 [.ag (eNwk n), .fl (.string s)] (.tu [.ag (ePnt (gfE n s).1), .fl (.bool (gfE n s).2)]) := by
  refine ctr (n := 26) (rs := #[.cell 4 29, .tmp 5]) (L := [(0, .d (.ag (eNwk n))), (1, .d (.fl (.string s)))]) Tryz.func26 rfl rfl rfl rfl rfl (fun w0 U0 => ?_)
  refine a_rseq ?_
  refine rg_nam (d := 2) (v := .pt 101 0) (m := 101) (nw := [(101, .bx 32 (eNwk n))]) rfl (og rfl (of_eff (op_box 101 rfl rfl rfl rfl) rfl)) rfl ?_
  refine rg_nam (d := 4) (v := .pt 102 0) (m := 102) (nw := [(102, .bx 29 ([.fl (.string (⟨#[]⟩)), .fl (.int .i64 0), .fl (.string (⟨#[]⟩))]))]) rfl (og rfl (of_eff (s_alloc 102 rfl ti29 (by kernel_rfl) rfl) rfl)) rfl ?_
  refine rg_put (d := 5) (v := .d (.fl (.bool false))) rfl (og rfl (op_assign rfl rfl rfl)) ?_
  refine rg_done rfl ?_
  refine a_seq ?_
  refine a_rseq ?_
  refine rg_put (d := 8) (v := .d (.ag (eNwk n))) rfl (og rfl (of_eff (s_load_pts rfl Tryz.underlying32 rfl ti32 rfl rfl rfl rfl) rfl)) ?_
  refine rg_put (d := 9) (v := .d (.fl (.int .i64 (gck n)))) rfl (og rfl (op_call rfl Tryz.func62 nm62 rfl (.cons rfl (.d _) .nil) (gck_c n) rfl)) ?_
  refine rg_put (d := 10) (v := .d (.fl (.bool (((gck n) != 0))))) rfl (og rfl (op_bin rfl rfl rfl (b_neq _ _ _ _) rfl)) ?_
  refine rg_done rfl ?_
  refine a_cond rfl (fun h1 => ?_) (fun h1 => ?_)
  · skip
    have h2 := t_bne h1
    refine a_rseq ?_
    refine rg_put (d := 11) (v := .d (.ag (ePnt ((Pnt.mk (⟨#[]⟩) 0 (⟨#[]⟩)))))) rfl (og rfl (of_eff (op_build rfl Tryz.underlying29 ti29 rfl (by kernel_rfl) (by kernel_rfl) (pl := #[(0, 1), (1, 1), (2, 1)]) (by kernel_rfl) .nil rfl) rfl)) ?_
    refine rg_sto (nw := [(102, .bx 29 ((ePnt ((Pnt.mk (⟨#[]⟩) 0 (⟨#[]⟩))))))]) rfl (og rfl (of_eff (s_store rfl rfl ti29 rfl rfl rfl rfl rfl rfl) rfl)) ?_
    refine rg_put (d := 5) (v := .d (.fl (.bool false))) rfl (og rfl (op_assign rfl rfl rfl)) ?_
    refine rg_done rfl ?_
    refine a_ret ?_
    show ∃ ds, ResL _ _ _ ds ∧ RV.of ds = _
    refine ⟨[.ag [.fl (.string (((Pnt.mk (⟨#[]⟩) 0 (⟨#[]⟩))).name)), .fl (.int .i64 (((Pnt.mk (⟨#[]⟩) 0 (⟨#[]⟩))).kind)), .fl (.string (((Pnt.mk (⟨#[]⟩) 0 (⟨#[]⟩))).sys))], .fl (.bool false)], (.cons (.cellT rfl rfl Tryz.underlying29 rfl ti29 rfl (Cv.ag (xs := [.fl (.string (((Pnt.mk (⟨#[]⟩) 0 (⟨#[]⟩))).name)), .fl (.int .i64 (((Pnt.mk (⟨#[]⟩) 0 (⟨#[]⟩))).kind)), .fl (.string (((Pnt.mk (⟨#[]⟩) 0 (⟨#[]⟩))).sys))]) (ys := [.fl (.string (((Pnt.mk (⟨#[]⟩) 0 (⟨#[]⟩))).name)), .fl (.int .i64 (((Pnt.mk (⟨#[]⟩) 0 (⟨#[]⟩))).kind)), .fl (.string (((Pnt.mk (⟨#[]⟩) 0 (⟨#[]⟩))).sys))]) ⟨Cv.refl _, Cv.refl _, Cv.refl _, trivial⟩)) (.cons (.tmp rfl (.d _)) .nil)), ?_⟩
    rw [gf_none (n := n) (s := s) (by rw [vl_bad h1, plc_nil]; omega)]; rfl
  · skip
    have h3 := f_bne h1
    refine a_skip ?_
    show A _ _ _ _ _ _ _
    refine a_seq ?_
    refine a_rseq ?_
    obtain ⟨h64, _, _, _⟩ := gck_0 (n := n) (f_bne h1)
    refine rg_put (d := 12) (v := .pt 101 0) rfl (og rfl (of_eff (s_field_pt rfl Tryz.underlying32 rfl ti25 rfl rfl rfl) rfl)) ?_
    refine rg_put (d := 13) (v := .d (.sl 3 (List.map ePnt n.pts))) rfl (og rfl (op_load_pt rfl Tryz.underlying25 rfl rfl rfl rfl rfl)) ?_
    refine rg_put (d := 14) (v := .d (.fl (.int .i64 (n.pts.length : Int)))) rfl (og rfl (s_len rfl Tryz.underlying25 rfl rfl)) ?_
    refine rg_put (d := 15) (v := .d (.fl (.int .i64 0))) rfl (og rfl (op_move rfl rfl rfl)) ?_
    refine rg_done rfl ?_
    refine a_block ?_
    refine a_loop (ι := Nat) (fun k => SS [(0, .d (.ag (eNwk n))), (1, .d (.fl (.string s))), (2, .pt 101 0), (4, .pt 102 0), (10, .d (.fl (.bool (((gck n) != 0))))), (13, .d (.sl 3 (List.map ePnt n.pts))), (14, .d (.fl (.int .i64 (n.pts.length : Int)))), (15, .d (.fl (.int .i64 (k : Int))))] [(101, .bx 32 (eNwk n)), (102, .bx 29 ([.fl (.string (⟨#[]⟩)), .fl (.int .i64 0), .fl (.string (⟨#[]⟩))]))]) (fun k => k ≤ n.pts.length ∧ ∀ q, q < k → (sEq (ix n.pts q).name s) = false) (fun k => n.pts.length - k) 0 (⟨by omega, fun q h => by omega⟩) (imp_forget rfl ⟨rfl, rfl, rfl, rfl, rfl, rfl, rfl, (by first | rfl | exact ci (by omega) | exact ci (by simp) | exact cd (by simp) | simp), trivial⟩ ⟨rfl, rfl, trivial⟩) (fun k hok => ?_)
    obtain ⟨hkk, hq⟩ := hok
    refine a_rseq ?_
    refine rg_put (d := 16) (v := .d (.fl (.bool ((decide ((k : Int) < (n.pts.length : Int))))))) rfl (og rfl (op_bin rfl rfl rfl (b_lss _ _ _ _) rfl)) ?_
    refine rg_done rfl ?_
    refine a_seq ?_
    refine a_cond rfl (fun h4 => ?_) (fun h4 => ?_)
    · skip
      have h5 := t_dec h4
      refine a_skip ?_
      show A _ _ _ _ _ _ _
      refine a_seq ?_
      refine a_block ?_
      refine a_rseq ?_
      refine rg_put (d := 17) (v := .el ((ePnt (ix n.pts k)))) rfl (og rfl (s_index rfl Tryz.underlying25 ti29 rfl rfl (by omega) (row_at (by omega)) rfl)) ?_
      refine rg_put (d := 18) (v := .d (.ag (ePnt (ix n.pts k)))) rfl (og rfl (of_eff (s_load_els rfl Tryz.underlying29 rfl ti29 rfl rfl rfl) rfl)) ?_
      refine rg_nam (d := 7) (v := .pt 103 0) (m := 103) (nw := [(103, .bx 29 ([.fl (.string (⟨#[]⟩)), .fl (.int .i64 0), .fl (.string (⟨#[]⟩))]))]) rfl (og rfl (of_eff (s_alloc 103 rfl ti29 (by kernel_rfl) rfl) rfl)) rfl ?_
      refine rg_sto (nw := [(103, .bx 29 ((ePnt (ix n.pts k))))]) rfl (og rfl (of_eff (s_store rfl rfl ti29 rfl rfl rfl rfl rfl rfl) rfl)) ?_
      refine rg_done rfl ?_
      refine a_rseq ?_
      refine rg_put (d := 19) (v := .pt 103 0) rfl (og rfl (of_eff (s_field_pt rfl Tryz.underlying29 rfl ti9 rfl rfl rfl) rfl)) ?_
      refine rg_put (d := 20) (v := .d (.fl (.string ((ix n.pts k).name)))) rfl (og rfl (op_load_pt rfl Tryz.underlying9 rfl rfl rfl rfl rfl)) ?_
      refine rg_put (d := 21) (v := .d (.fl (.string s))) rfl (og rfl (op_move rfl rfl rfl)) ?_
      refine rg_put (d := 22) (v := .d (.fl (.bool ((sEq ((ix n.pts k).name) s))))) rfl (og rfl (op_bin rfl rfl rfl (b_seq _ _ _) rfl)) ?_
      refine rg_done rfl ?_
      refine a_cond rfl (fun h6 => ?_) (fun h6 => ?_)
      · skip
        refine a_rseq ?_
        refine rg_put (d := 23) (v := .d (.ag (ePnt (ix n.pts k)))) rfl (og rfl (of_eff (s_load_pts rfl Tryz.underlying29 rfl ti29 rfl rfl rfl rfl) rfl)) ?_
        refine rg_sto (nw := [(102, .bx 29 ((ePnt (ix n.pts k))))]) rfl (og rfl (of_eff (s_store rfl rfl ti29 rfl rfl rfl rfl rfl rfl) rfl)) ?_
        refine rg_put (d := 5) (v := .d (.fl (.bool true))) rfl (og rfl (op_assign rfl rfl rfl)) ?_
        refine rg_done rfl ?_
        refine a_ret ?_
        show ∃ ds, ResL _ _ _ ds ∧ RV.of ds = _
        refine ⟨[.ag [.fl (.string ((ix n.pts k).name)), .fl (.int .i64 ((ix n.pts k).kind)), .fl (.string ((ix n.pts k).sys))], .fl (.bool true)], (.cons (.cellT rfl rfl Tryz.underlying29 rfl ti29 rfl (Cv.ag (xs := [.fl (.string ((ix n.pts k).name)), .fl (.int .i64 ((ix n.pts k).kind)), .fl (.string ((ix n.pts k).sys))]) (ys := [.fl (.string ((ix n.pts k).name)), .fl (.int .i64 ((ix n.pts k).kind)), .fl (.string ((ix n.pts k).sys))]) ⟨Cv.refl _, Cv.refl _, Cv.refl _, trivial⟩)) (.cons (.tmp rfl (.d _)) .nil)), ?_⟩
        have hp := plc_at (l := n.pts) (n := 64) (k := k) (s := s) (by omega) (by omega) (fun q h => hq q (by omega)) h6
        rw [gf_some (n := n) (s := s) (by rw [vl_ok h1, hp]; omega), vl_ok h1, hp]; rfl
      · skip
        refine a_skip ?_
        show A _ _ _ _ _ _ _
        refine a_region ?_
        refine rg_put (d := 24) (v := .d (.fl (.int .i64 (((k : Int) + 1))))) rfl (og rfl (op_bin rfl rfl rfl (fun x y w => b_add64 _ _ _ x y w (by omega)) rfl)) ?_
        refine rg_put (d := 15) (v := .d (.fl (.int .i64 (((k : Int) + 1))))) rfl (og rfl (op_move rfl rfl rfl)) ?_
        refine rg_done rfl ?_
        have hx : (sEq (ix n.pts k).name s) = false := h6
        show ∃ i, _ ∧ _ ∧ Imp _ _ _ _ _
        refine ⟨k + 1, ⟨by omega, fun q h => (Nat.lt_succ_iff_lt_or_eq.1 h).elim (hq q) (fun e => by rw [e]; exact hx)⟩, by omega, imp_forget rfl ⟨rfl, rfl, rfl, rfl, rfl, rfl, rfl, (by first | rfl | exact ci (by omega) | exact ci (by simp) | exact cd (by simp) | simp), trivial⟩ ⟨rfl, rfl, trivial⟩⟩
    · skip
      have h7 := f_dec h4
      refine a_exit ?_
      show A _ _ _ _ _ _ _
      refine a_rseq ?_
      refine rg_put (d := 25) (v := .d (.ag (ePnt ((Pnt.mk (⟨#[]⟩) 0 (⟨#[]⟩)))))) rfl (og rfl (of_eff (op_build rfl Tryz.underlying29 ti29 rfl (by kernel_rfl) (by kernel_rfl) (pl := #[(0, 1), (1, 1), (2, 1)]) (by kernel_rfl) .nil rfl) rfl)) ?_
      refine rg_sto (nw := [(102, .bx 29 ((ePnt ((Pnt.mk (⟨#[]⟩) 0 (⟨#[]⟩))))))]) rfl (og rfl (of_eff (s_store rfl rfl ti29 rfl rfl rfl rfl rfl rfl) rfl)) ?_
      refine rg_put (d := 5) (v := .d (.fl (.bool false))) rfl (og rfl (op_assign rfl rfl rfl)) ?_
      refine rg_done rfl ?_
      refine a_ret ?_
      show ∃ ds, ResL _ _ _ ds ∧ RV.of ds = _
      refine ⟨[.ag [.fl (.string (((Pnt.mk (⟨#[]⟩) 0 (⟨#[]⟩))).name)), .fl (.int .i64 (((Pnt.mk (⟨#[]⟩) 0 (⟨#[]⟩))).kind)), .fl (.string (((Pnt.mk (⟨#[]⟩) 0 (⟨#[]⟩))).sys))], .fl (.bool false)], (.cons (.cellT rfl rfl Tryz.underlying29 rfl ti29 rfl (Cv.ag (xs := [.fl (.string (((Pnt.mk (⟨#[]⟩) 0 (⟨#[]⟩))).name)), .fl (.int .i64 (((Pnt.mk (⟨#[]⟩) 0 (⟨#[]⟩))).kind)), .fl (.string (((Pnt.mk (⟨#[]⟩) 0 (⟨#[]⟩))).sys))]) (ys := [.fl (.string (((Pnt.mk (⟨#[]⟩) 0 (⟨#[]⟩))).name)), .fl (.int .i64 (((Pnt.mk (⟨#[]⟩) 0 (⟨#[]⟩))).kind)), .fl (.string (((Pnt.mk (⟨#[]⟩) 0 (⟨#[]⟩))).sys))]) ⟨Cv.refl _, Cv.refl _, Cv.refl _, trivial⟩)) (.cons (.tmp rfl (.d _)) .nil)), ?_⟩
      have hp := plc_no (l := n.pts) (n := 64) (k := k) (s := s) (by omega) (fun q h => hq q (by omega))
      rw [gf_none (n := n) (s := s) (by rw [vl_ok h1, hp]; omega)]; rfl
set_option maxHeartbeats 4000000 in
set_option maxRecDepth 100000 in
theorem vlC (n : Nwk) : Ctr Tryz.prog 67 [.ag (eNwk n)] (.d (.ag (eNwk (vlN n)))) := by
  refine ctr (n := 8) (rs := #[.cell 2 32]) (L := [(0, .d (.ag (eNwk n)))]) Tryz.func67 rfl rfl rfl rfl rfl (fun w0 U0 => ?_)
  refine a_rseq ?_
  refine rg_nam (d := 1) (v := .pt 101 0) (m := 101) (nw := [(101, .bx 32 (eNwk n))]) rfl (og rfl (of_eff (op_box 101 rfl rfl rfl rfl) rfl)) rfl ?_
  refine rg_nam (d := 2) (v := .pt 102 0) (m := 102) (nw := [(102, .bx 32 [.fl (.slice none 0 0), .fl (.slice none 0 0)])]) rfl (og rfl (of_eff (s_alloc 102 rfl ti32 (by kernel_rfl) rfl) rfl)) rfl ?_
  refine rg_done rfl ?_
  refine a_seq ?_
  refine a_rseq ?_
  refine rg_put (d := 3) (v := .d (.ag (eNwk n))) rfl (og rfl (of_eff (s_load_pts rfl Tryz.underlying32 rfl ti32 rfl rfl rfl rfl) rfl)) ?_
  refine rg_put (d := 4) (v := .d (.fl (.int .i64 (gck n)))) rfl (og rfl (op_call rfl Tryz.func107 nm107 rfl (.cons rfl (.d _) .nil) (gck_r n) rfl)) ?_
  refine rg_put (d := 5) (v := .d (.fl (.bool (((gck n) != 0))))) rfl (og rfl (op_bin rfl rfl rfl (b_neq _ _ _ _) rfl)) ?_
  refine rg_done rfl ?_
  refine a_cond rfl (fun h1 => ?_) (fun h1 => ?_)
  · skip
    have h2 := t_bne h1
    refine a_rseq ?_
    refine rg_put (d := 6) (v := .d (.ag [.fl (.slice none 0 0), .fl (.slice none 0 0)])) rfl (og rfl (of_eff (op_build rfl Tryz.underlying32 ti32 rfl (by kernel_rfl) (by kernel_rfl) (pl := #[(0, 1), (1, 1)]) (by kernel_rfl) .nil rfl) rfl)) ?_
    refine rg_sto (nw := [(102, .bx 32 [.fl (.slice none 0 0), .fl (.slice none 0 0)])]) rfl (og rfl (of_eff (s_store rfl rfl ti32 rfl rfl rfl rfl rfl rfl) rfl)) ?_
    refine rg_done rfl ?_
    refine a_ret ?_
    show ∃ ds, ResL _ _ _ ds ∧ RV.of ds = _
    refine ⟨[.ag [.sl 3 (List.map ePnt []), .sl 4 (List.map eLnk [])]], (.cons (.cellT rfl rfl Tryz.underlying32 rfl ti32 rfl (Cv.ag (xs := [.fl (.slice none 0 0), .fl (.slice none 0 0)]) (ys := [.sl 3 (List.map ePnt []), .sl 4 (List.map eLnk [])]) ⟨Cv.nil _, Cv.nil _, trivial⟩)) .nil), ?_⟩
    rw [vl_bad h1]; rfl
  · skip
    have h3 := f_bne h1
    refine a_skip ?_
    show A _ _ _ _ _ _ _
    refine a_rseq ?_
    refine rg_put (d := 7) (v := .d (.ag (eNwk n))) rfl (og rfl (of_eff (s_load_pts rfl Tryz.underlying32 rfl ti32 rfl rfl rfl rfl) rfl)) ?_
    refine rg_sto (nw := [(102, .bx 32 (eNwk n))]) rfl (og rfl (of_eff (s_store rfl rfl ti32 rfl rfl rfl rfl rfl rfl) rfl)) ?_
    refine rg_done rfl ?_
    refine a_ret ?_
    show ∃ ds, ResL _ _ _ ds ∧ RV.of ds = _
    refine ⟨[.ag [.sl 3 (List.map ePnt n.pts), .sl 4 (List.map eLnk n.lks)]], (.cons (.cellT rfl rfl Tryz.underlying32 rfl ti32 rfl (Cv.ag (xs := [.sl 3 (List.map ePnt n.pts), .sl 4 (List.map eLnk n.lks)]) (ys := [.sl 3 (List.map ePnt n.pts), .sl 4 (List.map eLnk n.lks)]) ⟨Cv.refl _, Cv.refl _, trivial⟩)) .nil), ?_⟩
    rw [vl_ok h1]; rfl
set_option maxHeartbeats 4000000 in
set_option maxRecDepth 100000 in
theorem gfR (n : Nwk) (s : ByteArray) : Ctr Tryz.prog 30 [.ag (eNwk n), .fl (.string s)] (.tu [.ag (ePnt (gfE n s).1), .fl (.bool (gfE n s).2)]) := by
  refine ctr (n := 22) (rs := #[.cell 4 29, .tmp 5]) (L := [(0, .d (.ag (eNwk n))), (1, .d (.fl (.string s)))]) Tryz.func30 rfl rfl rfl rfl rfl (fun w0 U0 => ?_)
  refine a_rseq ?_
  refine rg_nam (d := 2) (v := .pt 101 0) (m := 101) (nw := [(101, .bx 32 (eNwk n))]) rfl (og rfl (of_eff (op_box 101 rfl rfl rfl rfl) rfl)) rfl ?_
  refine rg_nam (d := 4) (v := .pt 102 0) (m := 102) (nw := [(102, .bx 29 ([.fl (.string (⟨#[]⟩)), .fl (.int .i64 0), .fl (.string (⟨#[]⟩))]))]) rfl (og rfl (of_eff (s_alloc 102 rfl ti29 (by kernel_rfl) rfl) rfl)) rfl ?_
  refine rg_put (d := 5) (v := .d (.fl (.bool false))) rfl (og rfl (op_assign rfl rfl rfl)) ?_
  refine rg_done rfl ?_
  refine a_rseq ?_
  refine rg_put (d := 8) (v := .d (.ag (eNwk n))) rfl (og rfl (of_eff (s_load_pts rfl Tryz.underlying32 rfl ti32 rfl rfl rfl rfl) rfl)) ?_
  refine rg_put (d := 9) (v := .d (.ag (eNwk (vlN n)))) rfl (og rfl (op_call rfl Tryz.func67 nm67 rfl (.cons rfl (.d _) .nil) (vlC n) rfl)) ?_
  refine rg_nam (d := 6) (v := .pt 103 0) (m := 103) (nw := [(103, .bx 32 [.fl (.slice none 0 0), .fl (.slice none 0 0)])]) rfl (og rfl (of_eff (s_alloc 103 rfl ti32 (by kernel_rfl) rfl) rfl)) rfl ?_
  refine rg_sto (nw := [(103, .bx 32 ((eNwk (vlN n))))]) rfl (og rfl (of_eff (s_store rfl rfl ti32 rfl rfl rfl rfl rfl rfl) rfl)) ?_
  refine rg_done rfl ?_
  refine a_rseq ?_
  have hvl := vl_len n
  refine rg_put (d := 10) (v := .pt 103 0) rfl (og rfl (of_eff (s_field_pt rfl Tryz.underlying32 rfl ti25 rfl rfl rfl) rfl)) ?_
  refine rg_put (d := 11) (v := .d (.sl 3 (List.map ePnt ((vlN n).pts)))) rfl (og rfl (op_load_pt rfl Tryz.underlying25 rfl rfl rfl rfl rfl)) ?_
  refine rg_put (d := 12) (v := .d (.fl (.string s))) rfl (og rfl (op_move rfl rfl rfl)) ?_
  refine rg_put (d := 13) (v := .d (.fl (.int .i64 ((plc ((vlN n).pts) 64 s))))) rfl (og rfl (op_call rfl Tryz.func68 nm68 rfl (.cons rfl (.d _) (.cons rfl (.d _) (.cons rfl (.d _) .nil))) (place_c ((vlN n).pts) 64 s (by omega) (by omega)) rfl)) ?_
  refine rg_put (d := 7) (v := .d (.fl (.int .i64 ((plc ((vlN n).pts) 64 s))))) rfl (og rfl (op_assign rfl rfl rfl)) ?_
  refine rg_done rfl ?_
  refine a_seq ?_
  refine a_rseq ?_
  refine rg_put (d := 14) (v := .d (.fl (.int .i64 ((plc ((vlN n).pts) 64 s))))) rfl (og rfl (op_move rfl rfl rfl)) ?_
  refine rg_put (d := 15) (v := .d (.fl (.bool ((decide ((plc ((vlN n).pts) 64 s) < 0)))))) rfl (og rfl (op_bin rfl rfl rfl (b_lss _ _ _ _) rfl)) ?_
  refine rg_done rfl ?_
  refine a_cond rfl (fun h1 => ?_) (fun h1 => ?_)
  · skip
    have h2 := t_dec h1
    refine a_rseq ?_
    refine rg_put (d := 16) (v := .d (.ag (ePnt ((Pnt.mk (⟨#[]⟩) 0 (⟨#[]⟩)))))) rfl (og rfl (of_eff (op_build rfl Tryz.underlying29 ti29 rfl (by kernel_rfl) (by kernel_rfl) (pl := #[(0, 1), (1, 1), (2, 1)]) (by kernel_rfl) .nil rfl) rfl)) ?_
    refine rg_sto (nw := [(102, .bx 29 ((ePnt ((Pnt.mk (⟨#[]⟩) 0 (⟨#[]⟩))))))]) rfl (og rfl (of_eff (s_store rfl rfl ti29 rfl rfl rfl rfl rfl rfl) rfl)) ?_
    refine rg_put (d := 5) (v := .d (.fl (.bool false))) rfl (og rfl (op_assign rfl rfl rfl)) ?_
    refine rg_done rfl ?_
    refine a_ret ?_
    show ∃ ds, ResL _ _ _ ds ∧ RV.of ds = _
    refine ⟨[.ag [.fl (.string (((Pnt.mk (⟨#[]⟩) 0 (⟨#[]⟩))).name)), .fl (.int .i64 (((Pnt.mk (⟨#[]⟩) 0 (⟨#[]⟩))).kind)), .fl (.string (((Pnt.mk (⟨#[]⟩) 0 (⟨#[]⟩))).sys))], .fl (.bool false)], (.cons (.cellT rfl rfl Tryz.underlying29 rfl ti29 rfl (Cv.ag (xs := [.fl (.string (((Pnt.mk (⟨#[]⟩) 0 (⟨#[]⟩))).name)), .fl (.int .i64 (((Pnt.mk (⟨#[]⟩) 0 (⟨#[]⟩))).kind)), .fl (.string (((Pnt.mk (⟨#[]⟩) 0 (⟨#[]⟩))).sys))]) (ys := [.fl (.string (((Pnt.mk (⟨#[]⟩) 0 (⟨#[]⟩))).name)), .fl (.int .i64 (((Pnt.mk (⟨#[]⟩) 0 (⟨#[]⟩))).kind)), .fl (.string (((Pnt.mk (⟨#[]⟩) 0 (⟨#[]⟩))).sys))]) ⟨Cv.refl _, Cv.refl _, Cv.refl _, trivial⟩)) (.cons (.tmp rfl (.d _)) .nil)), ?_⟩
    rw [gf_none (n := n) (s := s) (t_dec h1)]; rfl
  · skip
    have h3 := f_dec h1
    refine a_skip ?_
    show A _ _ _ _ _ _ _
    refine a_rseq ?_
    have hpi := plc_in (f_dec h1)
    have hpn : 0 ≤ plc (vlN n).pts 64 s := by have := f_dec h1; omega
    refine rg_put (d := 17) (v := .pt 103 0) rfl (og rfl (of_eff (s_field_pt rfl Tryz.underlying32 rfl ti25 rfl rfl rfl) rfl)) ?_
    refine rg_put (d := 18) (v := .d (.sl 3 (List.map ePnt ((vlN n).pts)))) rfl (og rfl (op_load_pt rfl Tryz.underlying25 rfl rfl rfl rfl rfl)) ?_
    refine rg_put (d := 19) (v := .d (.fl (.int .i64 ((plc ((vlN n).pts) 64 s))))) rfl (og rfl (op_move rfl rfl rfl)) ?_
    refine rg_put (d := 20) (v := .el ((ePnt ((ix ((vlN n).pts) ((plc ((vlN n).pts) 64 s)).toNat))))) rfl (og rfl (s_index rfl Tryz.underlying25 ti29 rfl rfl (by omega) (row_atI (by omega) (by omega)) rfl)) ?_
    refine rg_put (d := 21) (v := .d (.ag (ePnt (((ix ((vlN n).pts) ((plc ((vlN n).pts) 64 s)).toNat)))))) rfl (og rfl (of_eff (s_load_els rfl Tryz.underlying29 rfl ti29 rfl rfl rfl) rfl)) ?_
    refine rg_sto (nw := [(102, .bx 29 ((ePnt (((ix ((vlN n).pts) ((plc ((vlN n).pts) 64 s)).toNat))))))]) rfl (og rfl (of_eff (s_store rfl rfl ti29 rfl rfl rfl rfl rfl rfl) rfl)) ?_
    refine rg_put (d := 5) (v := .d (.fl (.bool true))) rfl (og rfl (op_assign rfl rfl rfl)) ?_
    refine rg_done rfl ?_
    refine a_ret ?_
    show ∃ ds, ResL _ _ _ ds ∧ RV.of ds = _
    refine ⟨[.ag [.fl (.string ((((ix ((vlN n).pts) ((plc ((vlN n).pts) 64 s)).toNat))).name)), .fl (.int .i64 ((((ix ((vlN n).pts) ((plc ((vlN n).pts) 64 s)).toNat))).kind)), .fl (.string ((((ix ((vlN n).pts) ((plc ((vlN n).pts) 64 s)).toNat))).sys))], .fl (.bool true)], (.cons (.cellT rfl rfl Tryz.underlying29 rfl ti29 rfl (Cv.ag (xs := [.fl (.string ((((ix ((vlN n).pts) ((plc ((vlN n).pts) 64 s)).toNat))).name)), .fl (.int .i64 ((((ix ((vlN n).pts) ((plc ((vlN n).pts) 64 s)).toNat))).kind)), .fl (.string ((((ix ((vlN n).pts) ((plc ((vlN n).pts) 64 s)).toNat))).sys))]) (ys := [.fl (.string ((((ix ((vlN n).pts) ((plc ((vlN n).pts) 64 s)).toNat))).name)), .fl (.int .i64 ((((ix ((vlN n).pts) ((plc ((vlN n).pts) 64 s)).toNat))).kind)), .fl (.string ((((ix ((vlN n).pts) ((plc ((vlN n).pts) 64 s)).toNat))).sys))]) ⟨Cv.refl _, Cv.refl _, Cv.refl _, trivial⟩)) (.cons (.tmp rfl (.d _)) .nil)), ?_⟩
    rw [gf_some (n := n) (s := s) (f_dec h1)]; rfl
end Go.Proofs.YtgelodnkfajgjaaGreatDoor.Wk
