/- New cases, both sides, and the law. Conditions: as each theorem names them. -/
import Derived.Test.YtgelodnkfajgjaaDoorTz
import Derived.Test.YtgelodnkfajgjaaDoorFw
import Derived.Test.YtgelodnkfajgjaaDoorTw
import Derived.Test.YtgelodnkfajgjaaDoorAl10
import Derived.Test.YtgelodnkfajgjaaDoorP1
set_option linter.unusedSimpArgs false
set_option linter.unusedVariables false
namespace Go.Proofs.YtgelodnkfajgjaaDoor.Wk
open Go Go.RowKit Go.Shelf Go.Lib Go.Proofs.YtgelodnkfajgjaaDoor Go.Proofs.YtgelodnkfajgjaaDoor.Pm Go.Proofs.YtgelodnkfajgjaaDoor.Av
theorem bneb {a b : Int} {c : Bool} (h : (a != b) = c) : (a == b) = !c := by rw [← h]; simp [bne]
def isF (s : ByteArray) : Bool := ((flds s).2 == 0) && (((flds s).1.length : Int) == 1)
def isD (d : Int) : Bool := decide (0 ≤ d) && decide (d < 795364)
def veh (s : ByteArray) : Bool := ((nmI s == 0) && sEq (nmS s) s) || (Tm.ck s == 0)
noncomputable def newE (id p k : ByteArray) (c d : Int) : Int := bif !(isF id) then 5 else bif !(veh p) then 19 else bif !(isF k) then 5 else bif (decide (c < 1) || decide (1125899906842624 < c)) then 13 else bif !(isD d) then 12 else 0
noncomputable def newC (id p k : ByteArray) (c d : Int) : XCase := bif newE id p k c d == 0 then ⟨id, p, k, d, d, 1, c, 0, 0, (⟨0, 0, 0⟩ : XAppeal)⟩ else (⟨⟨#[]⟩, ⟨#[]⟩, ⟨#[]⟩, 0, 0, 0, 0, 0, 0, ⟨0, 0, 0⟩⟩ : XCase)
theorem newC_bad {id p k : ByteArray} {c d e : Int} (h : newE id p k c d = e) (h0 : e ≠ 0) : newC id p k c d = (⟨⟨#[]⟩, ⟨#[]⟩, ⟨#[]⟩, 0, 0, 0, 0, 0, 0, ⟨0, 0, 0⟩⟩ : XCase) := by
  unfold newC; rw [h, show (e == 0) = false by simpa using h0]; rfl
theorem newC_ok {id p k : ByteArray} {c d : Int} (h : newE id p k c d = 0) : newC id p k c d = ⟨id, p, k, d, d, 1, c, 0, 0, (⟨0, 0, 0⟩ : XAppeal)⟩ := by
  unfold newC; rw [h]; rfl

theorem tagC56 (s : ByteArray) : Ctr Tryd.prog 56 [.fl (.string s)] (.d (.fl (.int .i64 (Tm.ck s)))) := ctr_flat [.string s] (fun w => Tk.check15 s w)
theorem tagC32 (s : ByteArray) : Ctr Tryd.prog 32 [.fl (.string s)] (.d (.fl (.int .i64 (Tm.ck s)))) := ctr_flat [.string s] (fun w => Tk.check16 s w)
set_option maxHeartbeats 4000000 in
set_option maxRecDepth 100000 in
theorem isFC28 (s : ByteArray) : Ctr Tryd.prog 28 [.fl (.string s)] (.d (.fl (.bool (isF s)))) := by
  refine ctr (n := 17) (rs := #[.tmp 2]) (L := [(0, .d (.fl (.string s)))]) Tryd.func28 rfl rfl rfl rfl rfl (fun w0 U0 => ?_)
  refine a_rseq ?_
  refine rg_put (d := 2) (v := .d (.fl (.bool false))) rfl (og rfl (op_assign rfl rfl rfl)) ?_
  refine rg_done rfl ?_
  refine a_rseq ?_
  refine rg_put (d := 6) (v := .d (.fl (.string s))) rfl (og rfl (op_move rfl rfl rfl)) ?_
  refine rg_put (d := 7) (v := .tu [.sl 1 (List.map rS ((flds s).1)), .fl (.int .i64 ((flds s).2))]) rfl (og rfl (op_call rfl Tryd.func55 nm55 rfl (.cons rfl (.d _) .nil) (fields51 s) rfl)) ?_
  refine rg_put (d := 5) (v := .tu [.sl 1 (List.map rS ((flds s).1)), .fl (.int .i64 ((flds s).2))]) rfl (og rfl (op_move rfl rfl rfl)) ?_
  refine rg_put (d := 8) (v := .d (.sl 1 (List.map rS ((flds s).1)))) rfl (og rfl (op_extract rfl rfl rfl rfl)) ?_
  refine rg_put (d := 9) (v := .d (.fl (.int .i64 ((flds s).2)))) rfl (og rfl (op_extract rfl rfl rfl rfl)) ?_
  refine rg_put (d := 3) (v := .d (.sl 1 (List.map rS ((flds s).1)))) rfl (og rfl (op_assign rfl rfl rfl)) ?_
  refine rg_put (d := 4) (v := .d (.fl (.int .i64 ((flds s).2)))) rfl (og rfl (op_assign rfl rfl rfl)) ?_
  refine rg_done rfl ?_
  refine a_rseq ?_
  refine rg_put (d := 10) (v := .d (.fl (.int .i64 ((flds s).2)))) rfl (og rfl (op_move rfl rfl rfl)) ?_
  refine rg_put (d := 11) (v := .d (.fl (.bool (((flds s).2 == 0))))) rfl (og rfl (op_bin rfl rfl rfl (b_eql _ _ _ _) rfl)) ?_
  refine rg_put (d := 12) (v := .d (.fl (.bool (((flds s).2 == 0))))) rfl (og rfl (op_move rfl rfl rfl)) ?_
  rcases fot (((flds s).2 == 0)) with h1 | h1
  · skip
    have h2 := f_beq h1
    refine rg_put (d := 13) (v := .d (.fl undef)) rfl (on rfl rfl rfl h1) ?_
    refine rg_put (d := 14) (v := .d (.fl undef)) rfl (on rfl rfl rfl h1) ?_
    refine rg_put (d := 15) (v := .d (.fl undef)) rfl (on rfl rfl rfl h1) ?_
    refine rg_put (d := 16) (v := .d (.fl (.bool false))) rfl (og rfl (op_pick rfl rfl (by rw [h1]; rfl) rfl)) ?_
    refine rg_put (d := 2) (v := .d (.fl (.bool false))) rfl (og rfl (op_assign rfl rfl rfl)) ?_
    refine rg_done rfl ?_
    refine a_ret ?_
    show ∃ ds, ResL _ _ _ ds ∧ RV.of ds = _
    refine ⟨[.fl (.bool false)], (.cons (.tmp rfl (.d _)) .nil), ?_⟩
    first
      | (have hu : isF s = false := by
          unfold isF; simp only [h1, Bool.true_or, Bool.false_or, Bool.or_true, Bool.or_false, Bool.not_true, Bool.not_false, cond_true, cond_false, Bool.true_and, Bool.false_and, Bool.and_true, Bool.and_false] <;> rfl
         rw [hu]; rfl)
      | (exfalso; omega)
  · skip
    have h3 := t_beq h1
    refine rg_put (d := 13) (v := .d (.sl 1 (List.map rS ((flds s).1)))) rfl (oy rfl rfl rfl h1 (op_move rfl rfl rfl)) ?_
    refine rg_put (d := 14) (v := .d (.fl (.int .i64 ((((flds s).1).length : Int))))) rfl (oy rfl rfl rfl h1 (s_len rfl Tryd.underlying43 rfl rfl)) ?_
    refine rg_put (d := 15) (v := .d (.fl (.bool (((((flds s).1).length : Int) == 1))))) rfl (oy rfl rfl rfl h1 (op_bin rfl rfl rfl (b_eql _ _ _ _) rfl)) ?_
    refine rg_put (d := 16) (v := .d (.fl (.bool (((((flds s).1).length : Int) == 1))))) rfl (og rfl (op_pick rfl rfl (by rw [h1]; rfl) rfl)) ?_
    refine rg_put (d := 2) (v := .d (.fl (.bool (((((flds s).1).length : Int) == 1))))) rfl (og rfl (op_assign rfl rfl rfl)) ?_
    refine rg_done rfl ?_
    refine a_ret ?_
    show ∃ ds, ResL _ _ _ ds ∧ RV.of ds = _
    refine ⟨[.fl (.bool (((((flds s).1).length : Int) == 1)))], (.cons (.tmp rfl (.d _)) .nil), ?_⟩
    first
      | (have hu : isF s = ((((flds s).1).length : Int) == 1) := by
          unfold isF; simp only [h1, Bool.true_or, Bool.false_or, Bool.or_true, Bool.or_false, Bool.not_true, Bool.not_false, cond_true, cond_false, Bool.true_and, Bool.false_and, Bool.and_true, Bool.and_false] <;> rfl
         rw [hu]; rfl)
      | (exfalso; omega)
set_option maxHeartbeats 4000000 in
set_option maxRecDepth 100000 in
theorem isFC31 (s : ByteArray) : Ctr Tryd.prog 31 [.fl (.string s)] (.d (.fl (.bool (isF s)))) := by
  refine ctr (n := 17) (rs := #[.tmp 2]) (L := [(0, .d (.fl (.string s)))]) Tryd.func31 rfl rfl rfl rfl rfl (fun w0 U0 => ?_)
  refine a_rseq ?_
  refine rg_put (d := 2) (v := .d (.fl (.bool false))) rfl (og rfl (op_assign rfl rfl rfl)) ?_
  refine rg_done rfl ?_
  refine a_rseq ?_
  refine rg_put (d := 6) (v := .d (.fl (.string s))) rfl (og rfl (op_move rfl rfl rfl)) ?_
  refine rg_put (d := 7) (v := .tu [.sl 1 (List.map rS ((flds s).1)), .fl (.int .i64 ((flds s).2))]) rfl (og rfl (op_call rfl Tryd.func57 nm57 rfl (.cons rfl (.d _) .nil) (fields54 s) rfl)) ?_
  refine rg_put (d := 5) (v := .tu [.sl 1 (List.map rS ((flds s).1)), .fl (.int .i64 ((flds s).2))]) rfl (og rfl (op_move rfl rfl rfl)) ?_
  refine rg_put (d := 8) (v := .d (.sl 1 (List.map rS ((flds s).1)))) rfl (og rfl (op_extract rfl rfl rfl rfl)) ?_
  refine rg_put (d := 9) (v := .d (.fl (.int .i64 ((flds s).2)))) rfl (og rfl (op_extract rfl rfl rfl rfl)) ?_
  refine rg_put (d := 3) (v := .d (.sl 1 (List.map rS ((flds s).1)))) rfl (og rfl (op_assign rfl rfl rfl)) ?_
  refine rg_put (d := 4) (v := .d (.fl (.int .i64 ((flds s).2)))) rfl (og rfl (op_assign rfl rfl rfl)) ?_
  refine rg_done rfl ?_
  refine a_rseq ?_
  refine rg_put (d := 10) (v := .d (.fl (.int .i64 ((flds s).2)))) rfl (og rfl (op_move rfl rfl rfl)) ?_
  refine rg_put (d := 11) (v := .d (.fl (.bool (((flds s).2 == 0))))) rfl (og rfl (op_bin rfl rfl rfl (b_eql _ _ _ _) rfl)) ?_
  refine rg_put (d := 12) (v := .d (.fl (.bool (((flds s).2 == 0))))) rfl (og rfl (op_move rfl rfl rfl)) ?_
  rcases fot (((flds s).2 == 0)) with h1 | h1
  · skip
    have h2 := f_beq h1
    refine rg_put (d := 13) (v := .d (.fl undef)) rfl (on rfl rfl rfl h1) ?_
    refine rg_put (d := 14) (v := .d (.fl undef)) rfl (on rfl rfl rfl h1) ?_
    refine rg_put (d := 15) (v := .d (.fl undef)) rfl (on rfl rfl rfl h1) ?_
    refine rg_put (d := 16) (v := .d (.fl (.bool false))) rfl (og rfl (op_pick rfl rfl (by rw [h1]; rfl) rfl)) ?_
    refine rg_put (d := 2) (v := .d (.fl (.bool false))) rfl (og rfl (op_assign rfl rfl rfl)) ?_
    refine rg_done rfl ?_
    refine a_ret ?_
    show ∃ ds, ResL _ _ _ ds ∧ RV.of ds = _
    refine ⟨[.fl (.bool false)], (.cons (.tmp rfl (.d _)) .nil), ?_⟩
    first
      | (have hu : isF s = false := by
          unfold isF; simp only [h1, Bool.true_or, Bool.false_or, Bool.or_true, Bool.or_false, Bool.not_true, Bool.not_false, cond_true, cond_false, Bool.true_and, Bool.false_and, Bool.and_true, Bool.and_false] <;> rfl
         rw [hu]; rfl)
      | (exfalso; omega)
  · skip
    have h3 := t_beq h1
    refine rg_put (d := 13) (v := .d (.sl 1 (List.map rS ((flds s).1)))) rfl (oy rfl rfl rfl h1 (op_move rfl rfl rfl)) ?_
    refine rg_put (d := 14) (v := .d (.fl (.int .i64 ((((flds s).1).length : Int))))) rfl (oy rfl rfl rfl h1 (s_len rfl Tryd.underlying43 rfl rfl)) ?_
    refine rg_put (d := 15) (v := .d (.fl (.bool (((((flds s).1).length : Int) == 1))))) rfl (oy rfl rfl rfl h1 (op_bin rfl rfl rfl (b_eql _ _ _ _) rfl)) ?_
    refine rg_put (d := 16) (v := .d (.fl (.bool (((((flds s).1).length : Int) == 1))))) rfl (og rfl (op_pick rfl rfl (by rw [h1]; rfl) rfl)) ?_
    refine rg_put (d := 2) (v := .d (.fl (.bool (((((flds s).1).length : Int) == 1))))) rfl (og rfl (op_assign rfl rfl rfl)) ?_
    refine rg_done rfl ?_
    refine a_ret ?_
    show ∃ ds, ResL _ _ _ ds ∧ RV.of ds = _
    refine ⟨[.fl (.bool (((((flds s).1).length : Int) == 1)))], (.cons (.tmp rfl (.d _)) .nil), ?_⟩
    first
      | (have hu : isF s = ((((flds s).1).length : Int) == 1) := by
          unfold isF; simp only [h1, Bool.true_or, Bool.false_or, Bool.or_true, Bool.or_false, Bool.not_true, Bool.not_false, cond_true, cond_false, Bool.true_and, Bool.false_and, Bool.and_true, Bool.and_false] <;> rfl
         rw [hu]; rfl)
      | (exfalso; omega)
set_option maxHeartbeats 4000000 in
set_option maxRecDepth 100000 in
theorem isDC30 (d : Int) : Ctr Tryd.prog 30 [.fl (.int .i64 d)] (.d (.fl (.bool (isD d)))) := by
  refine ctr (n := 9) (rs := #[.tmp 2]) (L := [(0, .d (.fl (.int .i64 d)))]) Tryd.func30 rfl rfl rfl rfl rfl (fun w0 U0 => ?_)
  refine a_rseq ?_
  refine rg_put (d := 2) (v := .d (.fl (.bool false))) rfl (og rfl (op_assign rfl rfl rfl)) ?_
  refine rg_done rfl ?_
  refine a_rseq ?_
  refine rg_put (d := 3) (v := .d (.fl (.int .i64 d))) rfl (og rfl (op_move rfl rfl rfl)) ?_
  refine rg_put (d := 4) (v := .d (.fl (.bool ((decide (0 ≤ d)))))) rfl (og rfl (op_bin rfl rfl rfl (b_leq _ _ _ _) rfl)) ?_
  refine rg_put (d := 5) (v := .d (.fl (.bool ((decide (0 ≤ d)))))) rfl (og rfl (op_move rfl rfl rfl)) ?_
  rcases fot ((decide (0 ≤ d))) with h1 | h1
  · skip
    have h2 := f_dec h1
    refine rg_put (d := 6) (v := .d (.fl undef)) rfl (on rfl rfl rfl h1) ?_
    refine rg_put (d := 7) (v := .d (.fl undef)) rfl (on rfl rfl rfl h1) ?_
    refine rg_put (d := 8) (v := .d (.fl (.bool false))) rfl (og rfl (op_pick rfl rfl (by rw [h1]; rfl) rfl)) ?_
    refine rg_put (d := 2) (v := .d (.fl (.bool false))) rfl (og rfl (op_assign rfl rfl rfl)) ?_
    refine rg_done rfl ?_
    refine a_ret ?_
    show ∃ ds, ResL _ _ _ ds ∧ RV.of ds = _
    refine ⟨[.fl (.bool false)], (.cons (.tmp rfl (.d _)) .nil), ?_⟩
    first
      | (have hu : isD d = false := by
          unfold isD; simp only [h1, Bool.true_or, Bool.false_or, Bool.or_true, Bool.or_false, Bool.not_true, Bool.not_false, cond_true, cond_false, Bool.true_and, Bool.false_and, Bool.and_true, Bool.and_false] <;> rfl
         rw [hu]; rfl)
      | (exfalso; omega)
  · skip
    have h3 := t_dec h1
    refine rg_put (d := 6) (v := .d (.fl (.int .i64 d))) rfl (oy rfl rfl rfl h1 (op_move rfl rfl rfl)) ?_
    refine rg_put (d := 7) (v := .d (.fl (.bool ((decide (d < 795364)))))) rfl (oy rfl rfl rfl h1 (op_bin rfl rfl rfl (b_lss _ _ _ _) rfl)) ?_
    refine rg_put (d := 8) (v := .d (.fl (.bool ((decide (d < 795364)))))) rfl (og rfl (op_pick rfl rfl (by rw [h1]; rfl) rfl)) ?_
    refine rg_put (d := 2) (v := .d (.fl (.bool ((decide (d < 795364)))))) rfl (og rfl (op_assign rfl rfl rfl)) ?_
    refine rg_done rfl ?_
    refine a_ret ?_
    show ∃ ds, ResL _ _ _ ds ∧ RV.of ds = _
    refine ⟨[.fl (.bool ((decide (d < 795364))))], (.cons (.tmp rfl (.d _)) .nil), ?_⟩
    first
      | (have hu : isD d = (decide (d < 795364)) := by
          unfold isD; simp only [h1, Bool.true_or, Bool.false_or, Bool.or_true, Bool.or_false, Bool.not_true, Bool.not_false, cond_true, cond_false, Bool.true_and, Bool.false_and, Bool.and_true, Bool.and_false] <;> rfl
         rw [hu]; rfl)
      | (exfalso; omega)
set_option maxHeartbeats 4000000 in
set_option maxRecDepth 100000 in
theorem isDC33 (d : Int) : Ctr Tryd.prog 33 [.fl (.int .i64 d)] (.d (.fl (.bool (isD d)))) := by
  refine ctr (n := 9) (rs := #[.tmp 2]) (L := [(0, .d (.fl (.int .i64 d)))]) Tryd.func33 rfl rfl rfl rfl rfl (fun w0 U0 => ?_)
  refine a_rseq ?_
  refine rg_put (d := 2) (v := .d (.fl (.bool false))) rfl (og rfl (op_assign rfl rfl rfl)) ?_
  refine rg_done rfl ?_
  refine a_rseq ?_
  refine rg_put (d := 3) (v := .d (.fl (.int .i64 d))) rfl (og rfl (op_move rfl rfl rfl)) ?_
  refine rg_put (d := 4) (v := .d (.fl (.bool ((decide (0 ≤ d)))))) rfl (og rfl (op_bin rfl rfl rfl (b_geq _ _ _ _) rfl)) ?_
  refine rg_put (d := 5) (v := .d (.fl (.bool ((decide (0 ≤ d)))))) rfl (og rfl (op_move rfl rfl rfl)) ?_
  rcases fot ((decide (0 ≤ d))) with h1 | h1
  · skip
    have h2 := f_dec h1
    refine rg_put (d := 6) (v := .d (.fl undef)) rfl (on rfl rfl rfl h1) ?_
    refine rg_put (d := 7) (v := .d (.fl undef)) rfl (on rfl rfl rfl h1) ?_
    refine rg_put (d := 8) (v := .d (.fl (.bool false))) rfl (og rfl (op_pick rfl rfl (by rw [h1]; rfl) rfl)) ?_
    refine rg_put (d := 2) (v := .d (.fl (.bool false))) rfl (og rfl (op_assign rfl rfl rfl)) ?_
    refine rg_done rfl ?_
    refine a_ret ?_
    show ∃ ds, ResL _ _ _ ds ∧ RV.of ds = _
    refine ⟨[.fl (.bool false)], (.cons (.tmp rfl (.d _)) .nil), ?_⟩
    first
      | (have hu : isD d = false := by
          unfold isD; simp only [h1, Bool.true_or, Bool.false_or, Bool.or_true, Bool.or_false, Bool.not_true, Bool.not_false, cond_true, cond_false, Bool.true_and, Bool.false_and, Bool.and_true, Bool.and_false] <;> rfl
         rw [hu]; rfl)
      | (exfalso; omega)
  · skip
    have h3 := t_dec h1
    refine rg_put (d := 6) (v := .d (.fl (.int .i64 d))) rfl (oy rfl rfl rfl h1 (op_move rfl rfl rfl)) ?_
    refine rg_put (d := 7) (v := .d (.fl (.bool ((decide (d < 795364)))))) rfl (oy rfl rfl rfl h1 (op_bin rfl rfl rfl (b_lss _ _ _ _) rfl)) ?_
    refine rg_put (d := 8) (v := .d (.fl (.bool ((decide (d < 795364)))))) rfl (og rfl (op_pick rfl rfl (by rw [h1]; rfl) rfl)) ?_
    refine rg_put (d := 2) (v := .d (.fl (.bool ((decide (d < 795364)))))) rfl (og rfl (op_assign rfl rfl rfl)) ?_
    refine rg_done rfl ?_
    refine a_ret ?_
    show ∃ ds, ResL _ _ _ ds ∧ RV.of ds = _
    refine ⟨[.fl (.bool ((decide (d < 795364))))], (.cons (.tmp rfl (.d _)) .nil), ?_⟩
    first
      | (have hu : isD d = (decide (d < 795364)) := by
          unfold isD; simp only [h1, Bool.true_or, Bool.false_or, Bool.or_true, Bool.or_false, Bool.not_true, Bool.not_false, cond_true, cond_false, Bool.true_and, Bool.false_and, Bool.and_true, Bool.and_false] <;> rfl
         rw [hu]; rfl)
      | (exfalso; omega)
set_option maxHeartbeats 4000000 in
set_option maxRecDepth 100000 in
theorem vehC (s : ByteArray) (hs : s.size ≤ 100000) : CtrK Tryd.prog KK 29 [.fl (.string s)] (.d (.fl (.bool (veh s)))) := by
  refine ctrK (n := 22) (rs := #[.tmp 2]) (L := [(0, .d (.fl (.string s)))]) Tryd.func29 rfl rfl rfl rfl rfl (fun w0 U0 hG => ?_)
  refine a_rseq ?_
  refine rg_put (d := 2) (v := .d (.fl (.bool false))) rfl (og rfl (op_assign rfl rfl rfl)) ?_
  refine rg_done rfl ?_
  refine a_rseq ?_
  refine rg_put (d := 6) (v := .d (.fl (.string s))) rfl (og rfl (op_move rfl rfl rfl)) ?_
  refine rg_put (d := 7) (v := .tu [.fl (.string (nmS s)), .fl (.int .i64 (nmI s))]) rfl (og rfl (op_callK kkst hG rfl Tryd.func7 nm7 rfl (.cons rfl (.d _) .nil) ((norC s (by omega))) rfl)) ?_
  refine rg_put (d := 5) (v := .tu [.fl (.string (nmS s)), .fl (.int .i64 (nmI s))]) rfl (og rfl (op_move rfl rfl rfl)) ?_
  refine rg_put (d := 8) (v := .d (.fl (.string (nmS s)))) rfl (og rfl (op_extract rfl rfl rfl rfl)) ?_
  refine rg_put (d := 9) (v := .d (.fl (.int .i64 (nmI s)))) rfl (og rfl (op_extract rfl rfl rfl rfl)) ?_
  refine rg_put (d := 3) (v := .d (.fl (.string (nmS s)))) rfl (og rfl (op_assign rfl rfl rfl)) ?_
  refine rg_put (d := 4) (v := .d (.fl (.int .i64 (nmI s)))) rfl (og rfl (op_assign rfl rfl rfl)) ?_
  refine rg_done rfl ?_
  refine a_rseq ?_
  refine rg_put (d := 10) (v := .d (.fl (.int .i64 (nmI s)))) rfl (og rfl (op_move rfl rfl rfl)) ?_
  refine rg_put (d := 11) (v := .d (.fl (.bool (((nmI s) == 0))))) rfl (og rfl (op_bin rfl rfl rfl (b_eql _ _ _ _) rfl)) ?_
  refine rg_put (d := 12) (v := .d (.fl (.bool (((nmI s) == 0))))) rfl (og rfl (op_move rfl rfl rfl)) ?_
  rcases fot (((nmI s) == 0)) with h1 | h1
  · skip
    have h2 := f_beq h1
    refine rg_put (d := 13) (v := .d (.fl undef)) rfl (on rfl rfl rfl h1) ?_
    refine rg_put (d := 14) (v := .d (.fl undef)) rfl (on rfl rfl rfl h1) ?_
    refine rg_put (d := 15) (v := .d (.fl undef)) rfl (on rfl rfl rfl h1) ?_
    refine rg_put (d := 16) (v := .d (.fl (.bool false))) rfl (og rfl (op_pick rfl rfl (by rw [h1]; rfl) rfl)) ?_
    refine rg_put (d := 17) (v := .d (.fl (.bool false))) rfl (og rfl (op_move rfl rfl rfl)) ?_
    refine rg_put (d := 18) (v := .d (.fl (.string s))) rfl (oy rfl rfl rfl rfl (op_move rfl rfl rfl)) ?_
    refine rg_put (d := 19) (v := .d (.fl (.int .i64 (Tm.ck s)))) rfl (oy rfl rfl rfl rfl (op_call rfl Tryd.func56 nm56 rfl (.cons rfl (.d _) .nil) (tagC56 s) rfl)) ?_
    refine rg_put (d := 20) (v := .d (.fl (.bool (((Tm.ck s) == 0))))) rfl (oy rfl rfl rfl rfl (op_bin rfl rfl rfl (b_eql _ _ _ _) rfl)) ?_
    refine rg_put (d := 21) (v := .d (.fl (.bool (((Tm.ck s) == 0))))) rfl (og rfl (op_pick rfl rfl rfl rfl)) ?_
    refine rg_put (d := 2) (v := .d (.fl (.bool (((Tm.ck s) == 0))))) rfl (og rfl (op_assign rfl rfl rfl)) ?_
    refine rg_done rfl ?_
    refine a_ret ?_
    show ∃ ds, ResL _ _ _ ds ∧ RV.of ds = _
    refine ⟨[.fl (.bool (((Tm.ck s) == 0)))], (.cons (.tmp rfl (.d _)) .nil), ?_⟩
    first
      | (have hu : veh s = ((Tm.ck s) == 0) := by
          unfold veh; simp only [h1, Bool.true_or, Bool.false_or, Bool.or_true, Bool.or_false, Bool.not_true, Bool.not_false, cond_true, cond_false, Bool.true_and, Bool.false_and, Bool.and_true, Bool.and_false] <;> rfl
         rw [hu]; rfl)
      | (exfalso; omega)
  · skip
    have h3 := t_beq h1
    refine rg_put (d := 13) (v := .d (.fl (.string (nmS s)))) rfl (oy rfl rfl rfl h1 (op_move rfl rfl rfl)) ?_
    refine rg_put (d := 14) (v := .d (.fl (.string s))) rfl (oy rfl rfl rfl h1 (op_move rfl rfl rfl)) ?_
    refine rg_put (d := 15) (v := .d (.fl (.bool ((sEq (nmS s) s))))) rfl (oy rfl rfl rfl h1 (op_bin rfl rfl rfl (b_seq _ _ _) rfl)) ?_
    refine rg_put (d := 16) (v := .d (.fl (.bool ((sEq (nmS s) s))))) rfl (og rfl (op_pick rfl rfl (by rw [h1]; rfl) rfl)) ?_
    refine rg_put (d := 17) (v := .d (.fl (.bool ((sEq (nmS s) s))))) rfl (og rfl (op_move rfl rfl rfl)) ?_
    rcases fot ((sEq (nmS s) s)) with h4 | h4
    · skip
      refine rg_put (d := 18) (v := .d (.fl (.string s))) rfl (oy rfl rfl rfl h4 (op_move rfl rfl rfl)) ?_
      refine rg_put (d := 19) (v := .d (.fl (.int .i64 (Tm.ck s)))) rfl (oy rfl rfl rfl h4 (op_call rfl Tryd.func56 nm56 rfl (.cons rfl (.d _) .nil) (tagC56 s) rfl)) ?_
      refine rg_put (d := 20) (v := .d (.fl (.bool (((Tm.ck s) == 0))))) rfl (oy rfl rfl rfl h4 (op_bin rfl rfl rfl (b_eql _ _ _ _) rfl)) ?_
      refine rg_put (d := 21) (v := .d (.fl (.bool (((Tm.ck s) == 0))))) rfl (og rfl (op_pick rfl rfl (by rw [h4]; rfl) rfl)) ?_
      refine rg_put (d := 2) (v := .d (.fl (.bool (((Tm.ck s) == 0))))) rfl (og rfl (op_assign rfl rfl rfl)) ?_
      refine rg_done rfl ?_
      refine a_ret ?_
      show ∃ ds, ResL _ _ _ ds ∧ RV.of ds = _
      refine ⟨[.fl (.bool (((Tm.ck s) == 0)))], (.cons (.tmp rfl (.d _)) .nil), ?_⟩
      first
        | (have hu : veh s = ((Tm.ck s) == 0) := by
            unfold veh; simp only [h1, h4, Bool.true_or, Bool.false_or, Bool.or_true, Bool.or_false, Bool.not_true, Bool.not_false, cond_true, cond_false, Bool.true_and, Bool.false_and, Bool.and_true, Bool.and_false] <;> rfl
           rw [hu]; rfl)
        | (exfalso; omega)
    · skip
      refine rg_put (d := 18) (v := .d (.fl undef)) rfl (on rfl rfl rfl h4) ?_
      refine rg_put (d := 19) (v := .d (.fl undef)) rfl (on rfl rfl rfl h4) ?_
      refine rg_put (d := 20) (v := .d (.fl undef)) rfl (on rfl rfl rfl h4) ?_
      refine rg_put (d := 21) (v := .d (.fl (.bool true))) rfl (og rfl (op_pick rfl rfl (by rw [h4]; rfl) rfl)) ?_
      refine rg_put (d := 2) (v := .d (.fl (.bool true))) rfl (og rfl (op_assign rfl rfl rfl)) ?_
      refine rg_done rfl ?_
      refine a_ret ?_
      show ∃ ds, ResL _ _ _ ds ∧ RV.of ds = _
      refine ⟨[.fl (.bool true)], (.cons (.tmp rfl (.d _)) .nil), ?_⟩
      first
        | (have hu : veh s = true := by
            unfold veh; simp only [h1, h4, Bool.true_or, Bool.false_or, Bool.or_true, Bool.or_false, Bool.not_true, Bool.not_false, cond_true, cond_false, Bool.true_and, Bool.false_and, Bool.and_true, Bool.and_false] <;> rfl
           rw [hu]; rfl)
        | (exfalso; omega)
set_option maxHeartbeats 4000000 in
set_option maxRecDepth 100000 in
theorem newP (id p k : ByteArray) (c d : Int) (hp : p.size ≤ 100000) : CtrK Tryd.prog KK 11 [.fl (.string id), .fl (.string p), .fl (.string k), .fl (.int .i64 c), .fl (.int .i64 d)] (.tu [.ag (eXCase (newC id p k c d)), .fl (.int .i64 (newE id p k c d))]) := by
  refine ctrK (n := 47) (rs := #[.cell 10 35, .tmp 11]) (L := [(0, .d (.fl (.string id))), (1, .d (.fl (.string p))), (2, .d (.fl (.string k))), (3, .d (.fl (.int .i64 c))), (4, .d (.fl (.int .i64 d)))]) Tryd.func11 rfl rfl rfl rfl rfl (fun w0 U0 hG => ?_)
  refine a_rseq ?_
  refine rg_nam (d := 10) (v := .pt 101 0) (m := 101) (nw := [(101, .bx 35 ([.fl (.string (⟨#[]⟩)), .fl (.string (⟨#[]⟩)), .fl (.string (⟨#[]⟩)), .fl (.int .i64 0), .fl (.int .i64 0), .fl (.int .i64 0), .fl (.int .i64 0), .fl (.int .i64 0), .fl (.int .i64 0), .fl (.int .i64 0), .fl (.int .i64 0), .fl (.int .i64 0)]))]) rfl (og rfl (of_eff (s_alloc 101 rfl ti35 (by kernel_rfl) rfl) rfl)) rfl ?_
  refine rg_put (d := 11) (v := .d (.fl (.int .i64 0))) rfl (og rfl (op_assign rfl rfl rfl)) ?_
  refine rg_done rfl ?_
  refine a_seq ?_
  refine a_block ?_
  refine a_rseq ?_
  refine rg_put (d := 13) (v := .d (.fl (.string id))) rfl (og rfl (op_move rfl rfl rfl)) ?_
  refine rg_put (d := 14) (v := .d (.fl (.bool (isF id)))) rfl (og rfl (op_call rfl Tryd.func28 nm28 rfl (.cons rfl (.d _) .nil) (isFC28 id) rfl)) ?_
  refine rg_put (d := 15) (v := .d (.fl (.bool ((!(isF id)))))) rfl (og rfl (op_un rfl rfl (u_not _) rfl)) ?_
  refine rg_put (d := 12) (v := .d (.fl (.bool ((!(isF id)))))) rfl (og rfl (op_assign rfl rfl rfl)) ?_
  refine rg_done rfl ?_
  refine a_cond rfl (fun h1 => ?_) (fun h1 => ?_)
  · skip
    have h2 := t_not h1
    refine a_rseq ?_
    refine rg_put (d := 16) (v := .d (.ag (eXCase ((XCase.mk (⟨#[]⟩) (⟨#[]⟩) (⟨#[]⟩) 0 0 0 0 0 0 (XAppeal.mk 0 0 0)))))) rfl (og rfl (of_eff (op_build rfl Tryd.underlying35 ti35 rfl (by kernel_rfl) (by kernel_rfl) (pl := #[(0, 1), (1, 1), (2, 1), (3, 1), (4, 1), (5, 1), (6, 1), (7, 1), (8, 1), (9, 3)]) (by kernel_rfl) .nil rfl) rfl)) ?_
    refine rg_sto (nw := [(101, .bx 35 ((eXCase ((XCase.mk (⟨#[]⟩) (⟨#[]⟩) (⟨#[]⟩) 0 0 0 0 0 0 (XAppeal.mk 0 0 0))))))]) rfl (og rfl (of_eff (s_store rfl rfl ti35 rfl rfl rfl rfl rfl rfl) rfl)) ?_
    refine rg_put (d := 11) (v := .d (.fl (.int .i64 5))) rfl (og rfl (op_assign rfl rfl rfl)) ?_
    refine rg_done rfl ?_
    refine a_ret ?_
    show ∃ ds, ResL _ _ _ ds ∧ RV.of ds = _
    refine ⟨[.ag [.fl (.string ((XCase.mk (⟨#[]⟩) (⟨#[]⟩) (⟨#[]⟩) 0 0 0 0 0 0 (XAppeal.mk 0 0 0)).idx)), .fl (.string ((XCase.mk (⟨#[]⟩) (⟨#[]⟩) (⟨#[]⟩) 0 0 0 0 0 0 (XAppeal.mk 0 0 0)).platex)), .fl (.string ((XCase.mk (⟨#[]⟩) (⟨#[]⟩) (⟨#[]⟩) 0 0 0 0 0 0 (XAppeal.mk 0 0 0)).keyx)), .fl (.int .i64 ((XCase.mk (⟨#[]⟩) (⟨#[]⟩) (⟨#[]⟩) 0 0 0 0 0 0 (XAppeal.mk 0 0 0)).begunx)), .fl (.int .i64 ((XCase.mk (⟨#[]⟩) (⟨#[]⟩) (⟨#[]⟩) 0 0 0 0 0 0 (XAppeal.mk 0 0 0)).sincex)), .fl (.int .i64 ((XCase.mk (⟨#[]⟩) (⟨#[]⟩) (⟨#[]⟩) 0 0 0 0 0 0 (XAppeal.mk 0 0 0)).stagex)), .fl (.int .i64 ((XCase.mk (⟨#[]⟩) (⟨#[]⟩) (⟨#[]⟩) 0 0 0 0 0 0 (XAppeal.mk 0 0 0)).owedx)), .fl (.int .i64 ((XCase.mk (⟨#[]⟩) (⟨#[]⟩) (⟨#[]⟩) 0 0 0 0 0 0 (XAppeal.mk 0 0 0)).paidx)), .fl (.int .i64 ((XCase.mk (⟨#[]⟩) (⟨#[]⟩) (⟨#[]⟩) 0 0 0 0 0 0 (XAppeal.mk 0 0 0)).pausedx)), .fl (.int .i64 (((XCase.mk (⟨#[]⟩) (⟨#[]⟩) (⟨#[]⟩) 0 0 0 0 0 0 (XAppeal.mk 0 0 0)).appealx).statex)), .fl (.int .i64 (((XCase.mk (⟨#[]⟩) (⟨#[]⟩) (⟨#[]⟩) 0 0 0 0 0 0 (XAppeal.mk 0 0 0)).appealx).groundx)), .fl (.int .i64 (((XCase.mk (⟨#[]⟩) (⟨#[]⟩) (⟨#[]⟩) 0 0 0 0 0 0 (XAppeal.mk 0 0 0)).appealx).dayx))], .fl (.int .i64 5)], (.cons (.cellT rfl rfl Tryd.underlying35 rfl ti35 rfl (Cv.ag (xs := [.fl (.string ((XCase.mk (⟨#[]⟩) (⟨#[]⟩) (⟨#[]⟩) 0 0 0 0 0 0 (XAppeal.mk 0 0 0)).idx)), .fl (.string ((XCase.mk (⟨#[]⟩) (⟨#[]⟩) (⟨#[]⟩) 0 0 0 0 0 0 (XAppeal.mk 0 0 0)).platex)), .fl (.string ((XCase.mk (⟨#[]⟩) (⟨#[]⟩) (⟨#[]⟩) 0 0 0 0 0 0 (XAppeal.mk 0 0 0)).keyx)), .fl (.int .i64 ((XCase.mk (⟨#[]⟩) (⟨#[]⟩) (⟨#[]⟩) 0 0 0 0 0 0 (XAppeal.mk 0 0 0)).begunx)), .fl (.int .i64 ((XCase.mk (⟨#[]⟩) (⟨#[]⟩) (⟨#[]⟩) 0 0 0 0 0 0 (XAppeal.mk 0 0 0)).sincex)), .fl (.int .i64 ((XCase.mk (⟨#[]⟩) (⟨#[]⟩) (⟨#[]⟩) 0 0 0 0 0 0 (XAppeal.mk 0 0 0)).stagex)), .fl (.int .i64 ((XCase.mk (⟨#[]⟩) (⟨#[]⟩) (⟨#[]⟩) 0 0 0 0 0 0 (XAppeal.mk 0 0 0)).owedx)), .fl (.int .i64 ((XCase.mk (⟨#[]⟩) (⟨#[]⟩) (⟨#[]⟩) 0 0 0 0 0 0 (XAppeal.mk 0 0 0)).paidx)), .fl (.int .i64 ((XCase.mk (⟨#[]⟩) (⟨#[]⟩) (⟨#[]⟩) 0 0 0 0 0 0 (XAppeal.mk 0 0 0)).pausedx)), .fl (.int .i64 (((XCase.mk (⟨#[]⟩) (⟨#[]⟩) (⟨#[]⟩) 0 0 0 0 0 0 (XAppeal.mk 0 0 0)).appealx).statex)), .fl (.int .i64 (((XCase.mk (⟨#[]⟩) (⟨#[]⟩) (⟨#[]⟩) 0 0 0 0 0 0 (XAppeal.mk 0 0 0)).appealx).groundx)), .fl (.int .i64 (((XCase.mk (⟨#[]⟩) (⟨#[]⟩) (⟨#[]⟩) 0 0 0 0 0 0 (XAppeal.mk 0 0 0)).appealx).dayx))]) (ys := [.fl (.string ((XCase.mk (⟨#[]⟩) (⟨#[]⟩) (⟨#[]⟩) 0 0 0 0 0 0 (XAppeal.mk 0 0 0)).idx)), .fl (.string ((XCase.mk (⟨#[]⟩) (⟨#[]⟩) (⟨#[]⟩) 0 0 0 0 0 0 (XAppeal.mk 0 0 0)).platex)), .fl (.string ((XCase.mk (⟨#[]⟩) (⟨#[]⟩) (⟨#[]⟩) 0 0 0 0 0 0 (XAppeal.mk 0 0 0)).keyx)), .fl (.int .i64 ((XCase.mk (⟨#[]⟩) (⟨#[]⟩) (⟨#[]⟩) 0 0 0 0 0 0 (XAppeal.mk 0 0 0)).begunx)), .fl (.int .i64 ((XCase.mk (⟨#[]⟩) (⟨#[]⟩) (⟨#[]⟩) 0 0 0 0 0 0 (XAppeal.mk 0 0 0)).sincex)), .fl (.int .i64 ((XCase.mk (⟨#[]⟩) (⟨#[]⟩) (⟨#[]⟩) 0 0 0 0 0 0 (XAppeal.mk 0 0 0)).stagex)), .fl (.int .i64 ((XCase.mk (⟨#[]⟩) (⟨#[]⟩) (⟨#[]⟩) 0 0 0 0 0 0 (XAppeal.mk 0 0 0)).owedx)), .fl (.int .i64 ((XCase.mk (⟨#[]⟩) (⟨#[]⟩) (⟨#[]⟩) 0 0 0 0 0 0 (XAppeal.mk 0 0 0)).paidx)), .fl (.int .i64 ((XCase.mk (⟨#[]⟩) (⟨#[]⟩) (⟨#[]⟩) 0 0 0 0 0 0 (XAppeal.mk 0 0 0)).pausedx)), .fl (.int .i64 (((XCase.mk (⟨#[]⟩) (⟨#[]⟩) (⟨#[]⟩) 0 0 0 0 0 0 (XAppeal.mk 0 0 0)).appealx).statex)), .fl (.int .i64 (((XCase.mk (⟨#[]⟩) (⟨#[]⟩) (⟨#[]⟩) 0 0 0 0 0 0 (XAppeal.mk 0 0 0)).appealx).groundx)), .fl (.int .i64 (((XCase.mk (⟨#[]⟩) (⟨#[]⟩) (⟨#[]⟩) 0 0 0 0 0 0 (XAppeal.mk 0 0 0)).appealx).dayx))]) ⟨Cv.refl _, Cv.refl _, Cv.refl _, Cv.refl _, Cv.refl _, Cv.refl _, Cv.refl _, Cv.refl _, Cv.refl _, Cv.refl _, Cv.refl _, Cv.refl _, trivial⟩)) (.cons (.tmp rfl (.d _)) .nil)), ?_⟩
    have hu : newE id p k c d = 5 := by unfold newE; simp only [h1, h2, Bool.true_or, Bool.false_or, Bool.or_true, Bool.or_false, Bool.not_true, Bool.not_false, cond_true, cond_false, Bool.true_and, Bool.false_and, Bool.and_true, Bool.and_false]
    rw [newC_bad hu (by decide), hu]; rfl
  · skip
    have h3 := f_not h1
    refine a_rseq ?_
    refine rg_put (d := 18) (v := .d (.fl (.string p))) rfl (og rfl (op_move rfl rfl rfl)) ?_
    refine rg_put (d := 19) (v := .d (.fl (.bool (veh p)))) rfl (og rfl (op_callK kkst hG rfl Tryd.func29 nm29 rfl (.cons rfl (.d _) .nil) ((vehC p (by omega))) rfl)) ?_
    refine rg_put (d := 20) (v := .d (.fl (.bool ((!(veh p)))))) rfl (og rfl (op_un rfl rfl (u_not _) rfl)) ?_
    refine rg_put (d := 17) (v := .d (.fl (.bool ((!(veh p)))))) rfl (og rfl (op_assign rfl rfl rfl)) ?_
    refine rg_done rfl ?_
    refine a_cond rfl (fun h4 => ?_) (fun h4 => ?_)
    · skip
      have h5 := t_not h4
      refine a_rseq ?_
      refine rg_put (d := 21) (v := .d (.ag (eXCase ((XCase.mk (⟨#[]⟩) (⟨#[]⟩) (⟨#[]⟩) 0 0 0 0 0 0 (XAppeal.mk 0 0 0)))))) rfl (og rfl (of_eff (op_build rfl Tryd.underlying35 ti35 rfl (by kernel_rfl) (by kernel_rfl) (pl := #[(0, 1), (1, 1), (2, 1), (3, 1), (4, 1), (5, 1), (6, 1), (7, 1), (8, 1), (9, 3)]) (by kernel_rfl) .nil rfl) rfl)) ?_
      refine rg_sto (nw := [(101, .bx 35 ((eXCase ((XCase.mk (⟨#[]⟩) (⟨#[]⟩) (⟨#[]⟩) 0 0 0 0 0 0 (XAppeal.mk 0 0 0))))))]) rfl (og rfl (of_eff (s_store rfl rfl ti35 rfl rfl rfl rfl rfl rfl) rfl)) ?_
      refine rg_put (d := 11) (v := .d (.fl (.int .i64 19))) rfl (og rfl (op_assign rfl rfl rfl)) ?_
      refine rg_done rfl ?_
      refine a_ret ?_
      show ∃ ds, ResL _ _ _ ds ∧ RV.of ds = _
      refine ⟨[.ag [.fl (.string ((XCase.mk (⟨#[]⟩) (⟨#[]⟩) (⟨#[]⟩) 0 0 0 0 0 0 (XAppeal.mk 0 0 0)).idx)), .fl (.string ((XCase.mk (⟨#[]⟩) (⟨#[]⟩) (⟨#[]⟩) 0 0 0 0 0 0 (XAppeal.mk 0 0 0)).platex)), .fl (.string ((XCase.mk (⟨#[]⟩) (⟨#[]⟩) (⟨#[]⟩) 0 0 0 0 0 0 (XAppeal.mk 0 0 0)).keyx)), .fl (.int .i64 ((XCase.mk (⟨#[]⟩) (⟨#[]⟩) (⟨#[]⟩) 0 0 0 0 0 0 (XAppeal.mk 0 0 0)).begunx)), .fl (.int .i64 ((XCase.mk (⟨#[]⟩) (⟨#[]⟩) (⟨#[]⟩) 0 0 0 0 0 0 (XAppeal.mk 0 0 0)).sincex)), .fl (.int .i64 ((XCase.mk (⟨#[]⟩) (⟨#[]⟩) (⟨#[]⟩) 0 0 0 0 0 0 (XAppeal.mk 0 0 0)).stagex)), .fl (.int .i64 ((XCase.mk (⟨#[]⟩) (⟨#[]⟩) (⟨#[]⟩) 0 0 0 0 0 0 (XAppeal.mk 0 0 0)).owedx)), .fl (.int .i64 ((XCase.mk (⟨#[]⟩) (⟨#[]⟩) (⟨#[]⟩) 0 0 0 0 0 0 (XAppeal.mk 0 0 0)).paidx)), .fl (.int .i64 ((XCase.mk (⟨#[]⟩) (⟨#[]⟩) (⟨#[]⟩) 0 0 0 0 0 0 (XAppeal.mk 0 0 0)).pausedx)), .fl (.int .i64 (((XCase.mk (⟨#[]⟩) (⟨#[]⟩) (⟨#[]⟩) 0 0 0 0 0 0 (XAppeal.mk 0 0 0)).appealx).statex)), .fl (.int .i64 (((XCase.mk (⟨#[]⟩) (⟨#[]⟩) (⟨#[]⟩) 0 0 0 0 0 0 (XAppeal.mk 0 0 0)).appealx).groundx)), .fl (.int .i64 (((XCase.mk (⟨#[]⟩) (⟨#[]⟩) (⟨#[]⟩) 0 0 0 0 0 0 (XAppeal.mk 0 0 0)).appealx).dayx))], .fl (.int .i64 19)], (.cons (.cellT rfl rfl Tryd.underlying35 rfl ti35 rfl (Cv.ag (xs := [.fl (.string ((XCase.mk (⟨#[]⟩) (⟨#[]⟩) (⟨#[]⟩) 0 0 0 0 0 0 (XAppeal.mk 0 0 0)).idx)), .fl (.string ((XCase.mk (⟨#[]⟩) (⟨#[]⟩) (⟨#[]⟩) 0 0 0 0 0 0 (XAppeal.mk 0 0 0)).platex)), .fl (.string ((XCase.mk (⟨#[]⟩) (⟨#[]⟩) (⟨#[]⟩) 0 0 0 0 0 0 (XAppeal.mk 0 0 0)).keyx)), .fl (.int .i64 ((XCase.mk (⟨#[]⟩) (⟨#[]⟩) (⟨#[]⟩) 0 0 0 0 0 0 (XAppeal.mk 0 0 0)).begunx)), .fl (.int .i64 ((XCase.mk (⟨#[]⟩) (⟨#[]⟩) (⟨#[]⟩) 0 0 0 0 0 0 (XAppeal.mk 0 0 0)).sincex)), .fl (.int .i64 ((XCase.mk (⟨#[]⟩) (⟨#[]⟩) (⟨#[]⟩) 0 0 0 0 0 0 (XAppeal.mk 0 0 0)).stagex)), .fl (.int .i64 ((XCase.mk (⟨#[]⟩) (⟨#[]⟩) (⟨#[]⟩) 0 0 0 0 0 0 (XAppeal.mk 0 0 0)).owedx)), .fl (.int .i64 ((XCase.mk (⟨#[]⟩) (⟨#[]⟩) (⟨#[]⟩) 0 0 0 0 0 0 (XAppeal.mk 0 0 0)).paidx)), .fl (.int .i64 ((XCase.mk (⟨#[]⟩) (⟨#[]⟩) (⟨#[]⟩) 0 0 0 0 0 0 (XAppeal.mk 0 0 0)).pausedx)), .fl (.int .i64 (((XCase.mk (⟨#[]⟩) (⟨#[]⟩) (⟨#[]⟩) 0 0 0 0 0 0 (XAppeal.mk 0 0 0)).appealx).statex)), .fl (.int .i64 (((XCase.mk (⟨#[]⟩) (⟨#[]⟩) (⟨#[]⟩) 0 0 0 0 0 0 (XAppeal.mk 0 0 0)).appealx).groundx)), .fl (.int .i64 (((XCase.mk (⟨#[]⟩) (⟨#[]⟩) (⟨#[]⟩) 0 0 0 0 0 0 (XAppeal.mk 0 0 0)).appealx).dayx))]) (ys := [.fl (.string ((XCase.mk (⟨#[]⟩) (⟨#[]⟩) (⟨#[]⟩) 0 0 0 0 0 0 (XAppeal.mk 0 0 0)).idx)), .fl (.string ((XCase.mk (⟨#[]⟩) (⟨#[]⟩) (⟨#[]⟩) 0 0 0 0 0 0 (XAppeal.mk 0 0 0)).platex)), .fl (.string ((XCase.mk (⟨#[]⟩) (⟨#[]⟩) (⟨#[]⟩) 0 0 0 0 0 0 (XAppeal.mk 0 0 0)).keyx)), .fl (.int .i64 ((XCase.mk (⟨#[]⟩) (⟨#[]⟩) (⟨#[]⟩) 0 0 0 0 0 0 (XAppeal.mk 0 0 0)).begunx)), .fl (.int .i64 ((XCase.mk (⟨#[]⟩) (⟨#[]⟩) (⟨#[]⟩) 0 0 0 0 0 0 (XAppeal.mk 0 0 0)).sincex)), .fl (.int .i64 ((XCase.mk (⟨#[]⟩) (⟨#[]⟩) (⟨#[]⟩) 0 0 0 0 0 0 (XAppeal.mk 0 0 0)).stagex)), .fl (.int .i64 ((XCase.mk (⟨#[]⟩) (⟨#[]⟩) (⟨#[]⟩) 0 0 0 0 0 0 (XAppeal.mk 0 0 0)).owedx)), .fl (.int .i64 ((XCase.mk (⟨#[]⟩) (⟨#[]⟩) (⟨#[]⟩) 0 0 0 0 0 0 (XAppeal.mk 0 0 0)).paidx)), .fl (.int .i64 ((XCase.mk (⟨#[]⟩) (⟨#[]⟩) (⟨#[]⟩) 0 0 0 0 0 0 (XAppeal.mk 0 0 0)).pausedx)), .fl (.int .i64 (((XCase.mk (⟨#[]⟩) (⟨#[]⟩) (⟨#[]⟩) 0 0 0 0 0 0 (XAppeal.mk 0 0 0)).appealx).statex)), .fl (.int .i64 (((XCase.mk (⟨#[]⟩) (⟨#[]⟩) (⟨#[]⟩) 0 0 0 0 0 0 (XAppeal.mk 0 0 0)).appealx).groundx)), .fl (.int .i64 (((XCase.mk (⟨#[]⟩) (⟨#[]⟩) (⟨#[]⟩) 0 0 0 0 0 0 (XAppeal.mk 0 0 0)).appealx).dayx))]) ⟨Cv.refl _, Cv.refl _, Cv.refl _, Cv.refl _, Cv.refl _, Cv.refl _, Cv.refl _, Cv.refl _, Cv.refl _, Cv.refl _, Cv.refl _, Cv.refl _, trivial⟩)) (.cons (.tmp rfl (.d _)) .nil)), ?_⟩
      have hu : newE id p k c d = 19 := by unfold newE; simp only [h1, h3, h4, h5, Bool.true_or, Bool.false_or, Bool.or_true, Bool.or_false, Bool.not_true, Bool.not_false, cond_true, cond_false, Bool.true_and, Bool.false_and, Bool.and_true, Bool.and_false]
      rw [newC_bad hu (by decide), hu]; rfl
    · skip
      have h6 := f_not h4
      refine a_rseq ?_
      refine rg_put (d := 23) (v := .d (.fl (.string k))) rfl (og rfl (op_move rfl rfl rfl)) ?_
      refine rg_put (d := 24) (v := .d (.fl (.bool (isF k)))) rfl (og rfl (op_call rfl Tryd.func28 nm28 rfl (.cons rfl (.d _) .nil) (isFC28 k) rfl)) ?_
      refine rg_put (d := 25) (v := .d (.fl (.bool ((!(isF k)))))) rfl (og rfl (op_un rfl rfl (u_not _) rfl)) ?_
      refine rg_put (d := 22) (v := .d (.fl (.bool ((!(isF k)))))) rfl (og rfl (op_assign rfl rfl rfl)) ?_
      refine rg_done rfl ?_
      refine a_cond rfl (fun h7 => ?_) (fun h7 => ?_)
      · skip
        have h8 := t_not h7
        refine a_rseq ?_
        refine rg_put (d := 26) (v := .d (.ag (eXCase ((XCase.mk (⟨#[]⟩) (⟨#[]⟩) (⟨#[]⟩) 0 0 0 0 0 0 (XAppeal.mk 0 0 0)))))) rfl (og rfl (of_eff (op_build rfl Tryd.underlying35 ti35 rfl (by kernel_rfl) (by kernel_rfl) (pl := #[(0, 1), (1, 1), (2, 1), (3, 1), (4, 1), (5, 1), (6, 1), (7, 1), (8, 1), (9, 3)]) (by kernel_rfl) .nil rfl) rfl)) ?_
        refine rg_sto (nw := [(101, .bx 35 ((eXCase ((XCase.mk (⟨#[]⟩) (⟨#[]⟩) (⟨#[]⟩) 0 0 0 0 0 0 (XAppeal.mk 0 0 0))))))]) rfl (og rfl (of_eff (s_store rfl rfl ti35 rfl rfl rfl rfl rfl rfl) rfl)) ?_
        refine rg_put (d := 11) (v := .d (.fl (.int .i64 5))) rfl (og rfl (op_assign rfl rfl rfl)) ?_
        refine rg_done rfl ?_
        refine a_ret ?_
        show ∃ ds, ResL _ _ _ ds ∧ RV.of ds = _
        refine ⟨[.ag [.fl (.string ((XCase.mk (⟨#[]⟩) (⟨#[]⟩) (⟨#[]⟩) 0 0 0 0 0 0 (XAppeal.mk 0 0 0)).idx)), .fl (.string ((XCase.mk (⟨#[]⟩) (⟨#[]⟩) (⟨#[]⟩) 0 0 0 0 0 0 (XAppeal.mk 0 0 0)).platex)), .fl (.string ((XCase.mk (⟨#[]⟩) (⟨#[]⟩) (⟨#[]⟩) 0 0 0 0 0 0 (XAppeal.mk 0 0 0)).keyx)), .fl (.int .i64 ((XCase.mk (⟨#[]⟩) (⟨#[]⟩) (⟨#[]⟩) 0 0 0 0 0 0 (XAppeal.mk 0 0 0)).begunx)), .fl (.int .i64 ((XCase.mk (⟨#[]⟩) (⟨#[]⟩) (⟨#[]⟩) 0 0 0 0 0 0 (XAppeal.mk 0 0 0)).sincex)), .fl (.int .i64 ((XCase.mk (⟨#[]⟩) (⟨#[]⟩) (⟨#[]⟩) 0 0 0 0 0 0 (XAppeal.mk 0 0 0)).stagex)), .fl (.int .i64 ((XCase.mk (⟨#[]⟩) (⟨#[]⟩) (⟨#[]⟩) 0 0 0 0 0 0 (XAppeal.mk 0 0 0)).owedx)), .fl (.int .i64 ((XCase.mk (⟨#[]⟩) (⟨#[]⟩) (⟨#[]⟩) 0 0 0 0 0 0 (XAppeal.mk 0 0 0)).paidx)), .fl (.int .i64 ((XCase.mk (⟨#[]⟩) (⟨#[]⟩) (⟨#[]⟩) 0 0 0 0 0 0 (XAppeal.mk 0 0 0)).pausedx)), .fl (.int .i64 (((XCase.mk (⟨#[]⟩) (⟨#[]⟩) (⟨#[]⟩) 0 0 0 0 0 0 (XAppeal.mk 0 0 0)).appealx).statex)), .fl (.int .i64 (((XCase.mk (⟨#[]⟩) (⟨#[]⟩) (⟨#[]⟩) 0 0 0 0 0 0 (XAppeal.mk 0 0 0)).appealx).groundx)), .fl (.int .i64 (((XCase.mk (⟨#[]⟩) (⟨#[]⟩) (⟨#[]⟩) 0 0 0 0 0 0 (XAppeal.mk 0 0 0)).appealx).dayx))], .fl (.int .i64 5)], (.cons (.cellT rfl rfl Tryd.underlying35 rfl ti35 rfl (Cv.ag (xs := [.fl (.string ((XCase.mk (⟨#[]⟩) (⟨#[]⟩) (⟨#[]⟩) 0 0 0 0 0 0 (XAppeal.mk 0 0 0)).idx)), .fl (.string ((XCase.mk (⟨#[]⟩) (⟨#[]⟩) (⟨#[]⟩) 0 0 0 0 0 0 (XAppeal.mk 0 0 0)).platex)), .fl (.string ((XCase.mk (⟨#[]⟩) (⟨#[]⟩) (⟨#[]⟩) 0 0 0 0 0 0 (XAppeal.mk 0 0 0)).keyx)), .fl (.int .i64 ((XCase.mk (⟨#[]⟩) (⟨#[]⟩) (⟨#[]⟩) 0 0 0 0 0 0 (XAppeal.mk 0 0 0)).begunx)), .fl (.int .i64 ((XCase.mk (⟨#[]⟩) (⟨#[]⟩) (⟨#[]⟩) 0 0 0 0 0 0 (XAppeal.mk 0 0 0)).sincex)), .fl (.int .i64 ((XCase.mk (⟨#[]⟩) (⟨#[]⟩) (⟨#[]⟩) 0 0 0 0 0 0 (XAppeal.mk 0 0 0)).stagex)), .fl (.int .i64 ((XCase.mk (⟨#[]⟩) (⟨#[]⟩) (⟨#[]⟩) 0 0 0 0 0 0 (XAppeal.mk 0 0 0)).owedx)), .fl (.int .i64 ((XCase.mk (⟨#[]⟩) (⟨#[]⟩) (⟨#[]⟩) 0 0 0 0 0 0 (XAppeal.mk 0 0 0)).paidx)), .fl (.int .i64 ((XCase.mk (⟨#[]⟩) (⟨#[]⟩) (⟨#[]⟩) 0 0 0 0 0 0 (XAppeal.mk 0 0 0)).pausedx)), .fl (.int .i64 (((XCase.mk (⟨#[]⟩) (⟨#[]⟩) (⟨#[]⟩) 0 0 0 0 0 0 (XAppeal.mk 0 0 0)).appealx).statex)), .fl (.int .i64 (((XCase.mk (⟨#[]⟩) (⟨#[]⟩) (⟨#[]⟩) 0 0 0 0 0 0 (XAppeal.mk 0 0 0)).appealx).groundx)), .fl (.int .i64 (((XCase.mk (⟨#[]⟩) (⟨#[]⟩) (⟨#[]⟩) 0 0 0 0 0 0 (XAppeal.mk 0 0 0)).appealx).dayx))]) (ys := [.fl (.string ((XCase.mk (⟨#[]⟩) (⟨#[]⟩) (⟨#[]⟩) 0 0 0 0 0 0 (XAppeal.mk 0 0 0)).idx)), .fl (.string ((XCase.mk (⟨#[]⟩) (⟨#[]⟩) (⟨#[]⟩) 0 0 0 0 0 0 (XAppeal.mk 0 0 0)).platex)), .fl (.string ((XCase.mk (⟨#[]⟩) (⟨#[]⟩) (⟨#[]⟩) 0 0 0 0 0 0 (XAppeal.mk 0 0 0)).keyx)), .fl (.int .i64 ((XCase.mk (⟨#[]⟩) (⟨#[]⟩) (⟨#[]⟩) 0 0 0 0 0 0 (XAppeal.mk 0 0 0)).begunx)), .fl (.int .i64 ((XCase.mk (⟨#[]⟩) (⟨#[]⟩) (⟨#[]⟩) 0 0 0 0 0 0 (XAppeal.mk 0 0 0)).sincex)), .fl (.int .i64 ((XCase.mk (⟨#[]⟩) (⟨#[]⟩) (⟨#[]⟩) 0 0 0 0 0 0 (XAppeal.mk 0 0 0)).stagex)), .fl (.int .i64 ((XCase.mk (⟨#[]⟩) (⟨#[]⟩) (⟨#[]⟩) 0 0 0 0 0 0 (XAppeal.mk 0 0 0)).owedx)), .fl (.int .i64 ((XCase.mk (⟨#[]⟩) (⟨#[]⟩) (⟨#[]⟩) 0 0 0 0 0 0 (XAppeal.mk 0 0 0)).paidx)), .fl (.int .i64 ((XCase.mk (⟨#[]⟩) (⟨#[]⟩) (⟨#[]⟩) 0 0 0 0 0 0 (XAppeal.mk 0 0 0)).pausedx)), .fl (.int .i64 (((XCase.mk (⟨#[]⟩) (⟨#[]⟩) (⟨#[]⟩) 0 0 0 0 0 0 (XAppeal.mk 0 0 0)).appealx).statex)), .fl (.int .i64 (((XCase.mk (⟨#[]⟩) (⟨#[]⟩) (⟨#[]⟩) 0 0 0 0 0 0 (XAppeal.mk 0 0 0)).appealx).groundx)), .fl (.int .i64 (((XCase.mk (⟨#[]⟩) (⟨#[]⟩) (⟨#[]⟩) 0 0 0 0 0 0 (XAppeal.mk 0 0 0)).appealx).dayx))]) ⟨Cv.refl _, Cv.refl _, Cv.refl _, Cv.refl _, Cv.refl _, Cv.refl _, Cv.refl _, Cv.refl _, Cv.refl _, Cv.refl _, Cv.refl _, Cv.refl _, trivial⟩)) (.cons (.tmp rfl (.d _)) .nil)), ?_⟩
        have hu : newE id p k c d = 5 := by unfold newE; simp only [h1, h3, h4, h6, h7, h8, Bool.true_or, Bool.false_or, Bool.or_true, Bool.or_false, Bool.not_true, Bool.not_false, cond_true, cond_false, Bool.true_and, Bool.false_and, Bool.and_true, Bool.and_false]
        rw [newC_bad hu (by decide), hu]; rfl
      · skip
        have h9 := f_not h7
        refine a_rseq ?_
        refine rg_put (d := 28) (v := .d (.fl (.int .i64 c))) rfl (og rfl (op_move rfl rfl rfl)) ?_
        refine rg_put (d := 29) (v := .d (.fl (.bool ((decide (c < 1)))))) rfl (og rfl (op_bin rfl rfl rfl (b_lss _ _ _ _) rfl)) ?_
        refine rg_put (d := 30) (v := .d (.fl (.bool ((decide (c < 1)))))) rfl (og rfl (op_move rfl rfl rfl)) ?_
        rcases fot ((decide (c < 1))) with h10 | h10
        · skip
          have h11 := f_dec h10
          refine rg_put (d := 31) (v := .d (.fl (.int .i64 c))) rfl (oy rfl rfl rfl h10 (op_move rfl rfl rfl)) ?_
          refine rg_put (d := 32) (v := .d (.fl (.bool ((decide (1125899906842624 < c)))))) rfl (oy rfl rfl rfl h10 (op_bin rfl rfl rfl (b_gtr _ _ _ _) rfl)) ?_
          refine rg_put (d := 33) (v := .d (.fl (.bool ((decide (1125899906842624 < c)))))) rfl (og rfl (op_pick rfl rfl (by rw [h10]; rfl) rfl)) ?_
          refine rg_put (d := 27) (v := .d (.fl (.bool ((decide (1125899906842624 < c)))))) rfl (og rfl (op_assign rfl rfl rfl)) ?_
          refine rg_done rfl ?_
          refine a_cond rfl (fun h12 => ?_) (fun h12 => ?_)
          · skip
            have h13 := t_dec h12
            refine a_rseq ?_
            refine rg_put (d := 34) (v := .d (.ag (eXCase ((XCase.mk (⟨#[]⟩) (⟨#[]⟩) (⟨#[]⟩) 0 0 0 0 0 0 (XAppeal.mk 0 0 0)))))) rfl (og rfl (of_eff (op_build rfl Tryd.underlying35 ti35 rfl (by kernel_rfl) (by kernel_rfl) (pl := #[(0, 1), (1, 1), (2, 1), (3, 1), (4, 1), (5, 1), (6, 1), (7, 1), (8, 1), (9, 3)]) (by kernel_rfl) .nil rfl) rfl)) ?_
            refine rg_sto (nw := [(101, .bx 35 ((eXCase ((XCase.mk (⟨#[]⟩) (⟨#[]⟩) (⟨#[]⟩) 0 0 0 0 0 0 (XAppeal.mk 0 0 0))))))]) rfl (og rfl (of_eff (s_store rfl rfl ti35 rfl rfl rfl rfl rfl rfl) rfl)) ?_
            refine rg_put (d := 11) (v := .d (.fl (.int .i64 13))) rfl (og rfl (op_assign rfl rfl rfl)) ?_
            refine rg_done rfl ?_
            refine a_ret ?_
            show ∃ ds, ResL _ _ _ ds ∧ RV.of ds = _
            refine ⟨[.ag [.fl (.string ((XCase.mk (⟨#[]⟩) (⟨#[]⟩) (⟨#[]⟩) 0 0 0 0 0 0 (XAppeal.mk 0 0 0)).idx)), .fl (.string ((XCase.mk (⟨#[]⟩) (⟨#[]⟩) (⟨#[]⟩) 0 0 0 0 0 0 (XAppeal.mk 0 0 0)).platex)), .fl (.string ((XCase.mk (⟨#[]⟩) (⟨#[]⟩) (⟨#[]⟩) 0 0 0 0 0 0 (XAppeal.mk 0 0 0)).keyx)), .fl (.int .i64 ((XCase.mk (⟨#[]⟩) (⟨#[]⟩) (⟨#[]⟩) 0 0 0 0 0 0 (XAppeal.mk 0 0 0)).begunx)), .fl (.int .i64 ((XCase.mk (⟨#[]⟩) (⟨#[]⟩) (⟨#[]⟩) 0 0 0 0 0 0 (XAppeal.mk 0 0 0)).sincex)), .fl (.int .i64 ((XCase.mk (⟨#[]⟩) (⟨#[]⟩) (⟨#[]⟩) 0 0 0 0 0 0 (XAppeal.mk 0 0 0)).stagex)), .fl (.int .i64 ((XCase.mk (⟨#[]⟩) (⟨#[]⟩) (⟨#[]⟩) 0 0 0 0 0 0 (XAppeal.mk 0 0 0)).owedx)), .fl (.int .i64 ((XCase.mk (⟨#[]⟩) (⟨#[]⟩) (⟨#[]⟩) 0 0 0 0 0 0 (XAppeal.mk 0 0 0)).paidx)), .fl (.int .i64 ((XCase.mk (⟨#[]⟩) (⟨#[]⟩) (⟨#[]⟩) 0 0 0 0 0 0 (XAppeal.mk 0 0 0)).pausedx)), .fl (.int .i64 (((XCase.mk (⟨#[]⟩) (⟨#[]⟩) (⟨#[]⟩) 0 0 0 0 0 0 (XAppeal.mk 0 0 0)).appealx).statex)), .fl (.int .i64 (((XCase.mk (⟨#[]⟩) (⟨#[]⟩) (⟨#[]⟩) 0 0 0 0 0 0 (XAppeal.mk 0 0 0)).appealx).groundx)), .fl (.int .i64 (((XCase.mk (⟨#[]⟩) (⟨#[]⟩) (⟨#[]⟩) 0 0 0 0 0 0 (XAppeal.mk 0 0 0)).appealx).dayx))], .fl (.int .i64 13)], (.cons (.cellT rfl rfl Tryd.underlying35 rfl ti35 rfl (Cv.ag (xs := [.fl (.string ((XCase.mk (⟨#[]⟩) (⟨#[]⟩) (⟨#[]⟩) 0 0 0 0 0 0 (XAppeal.mk 0 0 0)).idx)), .fl (.string ((XCase.mk (⟨#[]⟩) (⟨#[]⟩) (⟨#[]⟩) 0 0 0 0 0 0 (XAppeal.mk 0 0 0)).platex)), .fl (.string ((XCase.mk (⟨#[]⟩) (⟨#[]⟩) (⟨#[]⟩) 0 0 0 0 0 0 (XAppeal.mk 0 0 0)).keyx)), .fl (.int .i64 ((XCase.mk (⟨#[]⟩) (⟨#[]⟩) (⟨#[]⟩) 0 0 0 0 0 0 (XAppeal.mk 0 0 0)).begunx)), .fl (.int .i64 ((XCase.mk (⟨#[]⟩) (⟨#[]⟩) (⟨#[]⟩) 0 0 0 0 0 0 (XAppeal.mk 0 0 0)).sincex)), .fl (.int .i64 ((XCase.mk (⟨#[]⟩) (⟨#[]⟩) (⟨#[]⟩) 0 0 0 0 0 0 (XAppeal.mk 0 0 0)).stagex)), .fl (.int .i64 ((XCase.mk (⟨#[]⟩) (⟨#[]⟩) (⟨#[]⟩) 0 0 0 0 0 0 (XAppeal.mk 0 0 0)).owedx)), .fl (.int .i64 ((XCase.mk (⟨#[]⟩) (⟨#[]⟩) (⟨#[]⟩) 0 0 0 0 0 0 (XAppeal.mk 0 0 0)).paidx)), .fl (.int .i64 ((XCase.mk (⟨#[]⟩) (⟨#[]⟩) (⟨#[]⟩) 0 0 0 0 0 0 (XAppeal.mk 0 0 0)).pausedx)), .fl (.int .i64 (((XCase.mk (⟨#[]⟩) (⟨#[]⟩) (⟨#[]⟩) 0 0 0 0 0 0 (XAppeal.mk 0 0 0)).appealx).statex)), .fl (.int .i64 (((XCase.mk (⟨#[]⟩) (⟨#[]⟩) (⟨#[]⟩) 0 0 0 0 0 0 (XAppeal.mk 0 0 0)).appealx).groundx)), .fl (.int .i64 (((XCase.mk (⟨#[]⟩) (⟨#[]⟩) (⟨#[]⟩) 0 0 0 0 0 0 (XAppeal.mk 0 0 0)).appealx).dayx))]) (ys := [.fl (.string ((XCase.mk (⟨#[]⟩) (⟨#[]⟩) (⟨#[]⟩) 0 0 0 0 0 0 (XAppeal.mk 0 0 0)).idx)), .fl (.string ((XCase.mk (⟨#[]⟩) (⟨#[]⟩) (⟨#[]⟩) 0 0 0 0 0 0 (XAppeal.mk 0 0 0)).platex)), .fl (.string ((XCase.mk (⟨#[]⟩) (⟨#[]⟩) (⟨#[]⟩) 0 0 0 0 0 0 (XAppeal.mk 0 0 0)).keyx)), .fl (.int .i64 ((XCase.mk (⟨#[]⟩) (⟨#[]⟩) (⟨#[]⟩) 0 0 0 0 0 0 (XAppeal.mk 0 0 0)).begunx)), .fl (.int .i64 ((XCase.mk (⟨#[]⟩) (⟨#[]⟩) (⟨#[]⟩) 0 0 0 0 0 0 (XAppeal.mk 0 0 0)).sincex)), .fl (.int .i64 ((XCase.mk (⟨#[]⟩) (⟨#[]⟩) (⟨#[]⟩) 0 0 0 0 0 0 (XAppeal.mk 0 0 0)).stagex)), .fl (.int .i64 ((XCase.mk (⟨#[]⟩) (⟨#[]⟩) (⟨#[]⟩) 0 0 0 0 0 0 (XAppeal.mk 0 0 0)).owedx)), .fl (.int .i64 ((XCase.mk (⟨#[]⟩) (⟨#[]⟩) (⟨#[]⟩) 0 0 0 0 0 0 (XAppeal.mk 0 0 0)).paidx)), .fl (.int .i64 ((XCase.mk (⟨#[]⟩) (⟨#[]⟩) (⟨#[]⟩) 0 0 0 0 0 0 (XAppeal.mk 0 0 0)).pausedx)), .fl (.int .i64 (((XCase.mk (⟨#[]⟩) (⟨#[]⟩) (⟨#[]⟩) 0 0 0 0 0 0 (XAppeal.mk 0 0 0)).appealx).statex)), .fl (.int .i64 (((XCase.mk (⟨#[]⟩) (⟨#[]⟩) (⟨#[]⟩) 0 0 0 0 0 0 (XAppeal.mk 0 0 0)).appealx).groundx)), .fl (.int .i64 (((XCase.mk (⟨#[]⟩) (⟨#[]⟩) (⟨#[]⟩) 0 0 0 0 0 0 (XAppeal.mk 0 0 0)).appealx).dayx))]) ⟨Cv.refl _, Cv.refl _, Cv.refl _, Cv.refl _, Cv.refl _, Cv.refl _, Cv.refl _, Cv.refl _, Cv.refl _, Cv.refl _, Cv.refl _, Cv.refl _, trivial⟩)) (.cons (.tmp rfl (.d _)) .nil)), ?_⟩
            have hu : newE id p k c d = 13 := by unfold newE; simp only [h1, h3, h4, h6, h7, h9, h10, h12, Bool.true_or, Bool.false_or, Bool.or_true, Bool.or_false, Bool.not_true, Bool.not_false, cond_true, cond_false, Bool.true_and, Bool.false_and, Bool.and_true, Bool.and_false]
            rw [newC_bad hu (by decide), hu]; rfl
          · skip
            have h14 := f_dec h12
            refine a_rseq ?_
            refine rg_put (d := 36) (v := .d (.fl (.int .i64 d))) rfl (og rfl (op_move rfl rfl rfl)) ?_
            refine rg_put (d := 37) (v := .d (.fl (.bool (isD d)))) rfl (og rfl (op_call rfl Tryd.func30 nm30 rfl (.cons rfl (.d _) .nil) (isDC30 d) rfl)) ?_
            refine rg_put (d := 38) (v := .d (.fl (.bool ((!(isD d)))))) rfl (og rfl (op_un rfl rfl (u_not _) rfl)) ?_
            refine rg_put (d := 35) (v := .d (.fl (.bool ((!(isD d)))))) rfl (og rfl (op_assign rfl rfl rfl)) ?_
            refine rg_done rfl ?_
            refine a_cond rfl (fun h15 => ?_) (fun h15 => ?_)
            · skip
              have h16 := t_not h15
              refine a_rseq ?_
              refine rg_put (d := 39) (v := .d (.ag (eXCase ((XCase.mk (⟨#[]⟩) (⟨#[]⟩) (⟨#[]⟩) 0 0 0 0 0 0 (XAppeal.mk 0 0 0)))))) rfl (og rfl (of_eff (op_build rfl Tryd.underlying35 ti35 rfl (by kernel_rfl) (by kernel_rfl) (pl := #[(0, 1), (1, 1), (2, 1), (3, 1), (4, 1), (5, 1), (6, 1), (7, 1), (8, 1), (9, 3)]) (by kernel_rfl) .nil rfl) rfl)) ?_
              refine rg_sto (nw := [(101, .bx 35 ((eXCase ((XCase.mk (⟨#[]⟩) (⟨#[]⟩) (⟨#[]⟩) 0 0 0 0 0 0 (XAppeal.mk 0 0 0))))))]) rfl (og rfl (of_eff (s_store rfl rfl ti35 rfl rfl rfl rfl rfl rfl) rfl)) ?_
              refine rg_put (d := 11) (v := .d (.fl (.int .i64 12))) rfl (og rfl (op_assign rfl rfl rfl)) ?_
              refine rg_done rfl ?_
              refine a_ret ?_
              show ∃ ds, ResL _ _ _ ds ∧ RV.of ds = _
              refine ⟨[.ag [.fl (.string ((XCase.mk (⟨#[]⟩) (⟨#[]⟩) (⟨#[]⟩) 0 0 0 0 0 0 (XAppeal.mk 0 0 0)).idx)), .fl (.string ((XCase.mk (⟨#[]⟩) (⟨#[]⟩) (⟨#[]⟩) 0 0 0 0 0 0 (XAppeal.mk 0 0 0)).platex)), .fl (.string ((XCase.mk (⟨#[]⟩) (⟨#[]⟩) (⟨#[]⟩) 0 0 0 0 0 0 (XAppeal.mk 0 0 0)).keyx)), .fl (.int .i64 ((XCase.mk (⟨#[]⟩) (⟨#[]⟩) (⟨#[]⟩) 0 0 0 0 0 0 (XAppeal.mk 0 0 0)).begunx)), .fl (.int .i64 ((XCase.mk (⟨#[]⟩) (⟨#[]⟩) (⟨#[]⟩) 0 0 0 0 0 0 (XAppeal.mk 0 0 0)).sincex)), .fl (.int .i64 ((XCase.mk (⟨#[]⟩) (⟨#[]⟩) (⟨#[]⟩) 0 0 0 0 0 0 (XAppeal.mk 0 0 0)).stagex)), .fl (.int .i64 ((XCase.mk (⟨#[]⟩) (⟨#[]⟩) (⟨#[]⟩) 0 0 0 0 0 0 (XAppeal.mk 0 0 0)).owedx)), .fl (.int .i64 ((XCase.mk (⟨#[]⟩) (⟨#[]⟩) (⟨#[]⟩) 0 0 0 0 0 0 (XAppeal.mk 0 0 0)).paidx)), .fl (.int .i64 ((XCase.mk (⟨#[]⟩) (⟨#[]⟩) (⟨#[]⟩) 0 0 0 0 0 0 (XAppeal.mk 0 0 0)).pausedx)), .fl (.int .i64 (((XCase.mk (⟨#[]⟩) (⟨#[]⟩) (⟨#[]⟩) 0 0 0 0 0 0 (XAppeal.mk 0 0 0)).appealx).statex)), .fl (.int .i64 (((XCase.mk (⟨#[]⟩) (⟨#[]⟩) (⟨#[]⟩) 0 0 0 0 0 0 (XAppeal.mk 0 0 0)).appealx).groundx)), .fl (.int .i64 (((XCase.mk (⟨#[]⟩) (⟨#[]⟩) (⟨#[]⟩) 0 0 0 0 0 0 (XAppeal.mk 0 0 0)).appealx).dayx))], .fl (.int .i64 12)], (.cons (.cellT rfl rfl Tryd.underlying35 rfl ti35 rfl (Cv.ag (xs := [.fl (.string ((XCase.mk (⟨#[]⟩) (⟨#[]⟩) (⟨#[]⟩) 0 0 0 0 0 0 (XAppeal.mk 0 0 0)).idx)), .fl (.string ((XCase.mk (⟨#[]⟩) (⟨#[]⟩) (⟨#[]⟩) 0 0 0 0 0 0 (XAppeal.mk 0 0 0)).platex)), .fl (.string ((XCase.mk (⟨#[]⟩) (⟨#[]⟩) (⟨#[]⟩) 0 0 0 0 0 0 (XAppeal.mk 0 0 0)).keyx)), .fl (.int .i64 ((XCase.mk (⟨#[]⟩) (⟨#[]⟩) (⟨#[]⟩) 0 0 0 0 0 0 (XAppeal.mk 0 0 0)).begunx)), .fl (.int .i64 ((XCase.mk (⟨#[]⟩) (⟨#[]⟩) (⟨#[]⟩) 0 0 0 0 0 0 (XAppeal.mk 0 0 0)).sincex)), .fl (.int .i64 ((XCase.mk (⟨#[]⟩) (⟨#[]⟩) (⟨#[]⟩) 0 0 0 0 0 0 (XAppeal.mk 0 0 0)).stagex)), .fl (.int .i64 ((XCase.mk (⟨#[]⟩) (⟨#[]⟩) (⟨#[]⟩) 0 0 0 0 0 0 (XAppeal.mk 0 0 0)).owedx)), .fl (.int .i64 ((XCase.mk (⟨#[]⟩) (⟨#[]⟩) (⟨#[]⟩) 0 0 0 0 0 0 (XAppeal.mk 0 0 0)).paidx)), .fl (.int .i64 ((XCase.mk (⟨#[]⟩) (⟨#[]⟩) (⟨#[]⟩) 0 0 0 0 0 0 (XAppeal.mk 0 0 0)).pausedx)), .fl (.int .i64 (((XCase.mk (⟨#[]⟩) (⟨#[]⟩) (⟨#[]⟩) 0 0 0 0 0 0 (XAppeal.mk 0 0 0)).appealx).statex)), .fl (.int .i64 (((XCase.mk (⟨#[]⟩) (⟨#[]⟩) (⟨#[]⟩) 0 0 0 0 0 0 (XAppeal.mk 0 0 0)).appealx).groundx)), .fl (.int .i64 (((XCase.mk (⟨#[]⟩) (⟨#[]⟩) (⟨#[]⟩) 0 0 0 0 0 0 (XAppeal.mk 0 0 0)).appealx).dayx))]) (ys := [.fl (.string ((XCase.mk (⟨#[]⟩) (⟨#[]⟩) (⟨#[]⟩) 0 0 0 0 0 0 (XAppeal.mk 0 0 0)).idx)), .fl (.string ((XCase.mk (⟨#[]⟩) (⟨#[]⟩) (⟨#[]⟩) 0 0 0 0 0 0 (XAppeal.mk 0 0 0)).platex)), .fl (.string ((XCase.mk (⟨#[]⟩) (⟨#[]⟩) (⟨#[]⟩) 0 0 0 0 0 0 (XAppeal.mk 0 0 0)).keyx)), .fl (.int .i64 ((XCase.mk (⟨#[]⟩) (⟨#[]⟩) (⟨#[]⟩) 0 0 0 0 0 0 (XAppeal.mk 0 0 0)).begunx)), .fl (.int .i64 ((XCase.mk (⟨#[]⟩) (⟨#[]⟩) (⟨#[]⟩) 0 0 0 0 0 0 (XAppeal.mk 0 0 0)).sincex)), .fl (.int .i64 ((XCase.mk (⟨#[]⟩) (⟨#[]⟩) (⟨#[]⟩) 0 0 0 0 0 0 (XAppeal.mk 0 0 0)).stagex)), .fl (.int .i64 ((XCase.mk (⟨#[]⟩) (⟨#[]⟩) (⟨#[]⟩) 0 0 0 0 0 0 (XAppeal.mk 0 0 0)).owedx)), .fl (.int .i64 ((XCase.mk (⟨#[]⟩) (⟨#[]⟩) (⟨#[]⟩) 0 0 0 0 0 0 (XAppeal.mk 0 0 0)).paidx)), .fl (.int .i64 ((XCase.mk (⟨#[]⟩) (⟨#[]⟩) (⟨#[]⟩) 0 0 0 0 0 0 (XAppeal.mk 0 0 0)).pausedx)), .fl (.int .i64 (((XCase.mk (⟨#[]⟩) (⟨#[]⟩) (⟨#[]⟩) 0 0 0 0 0 0 (XAppeal.mk 0 0 0)).appealx).statex)), .fl (.int .i64 (((XCase.mk (⟨#[]⟩) (⟨#[]⟩) (⟨#[]⟩) 0 0 0 0 0 0 (XAppeal.mk 0 0 0)).appealx).groundx)), .fl (.int .i64 (((XCase.mk (⟨#[]⟩) (⟨#[]⟩) (⟨#[]⟩) 0 0 0 0 0 0 (XAppeal.mk 0 0 0)).appealx).dayx))]) ⟨Cv.refl _, Cv.refl _, Cv.refl _, Cv.refl _, Cv.refl _, Cv.refl _, Cv.refl _, Cv.refl _, Cv.refl _, Cv.refl _, Cv.refl _, Cv.refl _, trivial⟩)) (.cons (.tmp rfl (.d _)) .nil)), ?_⟩
              have hu : newE id p k c d = 12 := by unfold newE; simp only [h1, h3, h4, h6, h7, h9, h10, h12, h15, h16, Bool.true_or, Bool.false_or, Bool.or_true, Bool.or_false, Bool.not_true, Bool.not_false, cond_true, cond_false, Bool.true_and, Bool.false_and, Bool.and_true, Bool.and_false]
              rw [newC_bad hu (by decide), hu]; rfl
            · skip
              have h17 := f_not h15
              refine a_skip ?_
              show A _ _ _ _ _ _ _
              refine a_rseq ?_
              refine rg_put (d := 40) (v := .d (.fl (.string id))) rfl (og rfl (op_move rfl rfl rfl)) ?_
              refine rg_put (d := 41) (v := .d (.fl (.string p))) rfl (og rfl (op_move rfl rfl rfl)) ?_
              refine rg_put (d := 42) (v := .d (.fl (.string k))) rfl (og rfl (op_move rfl rfl rfl)) ?_
              refine rg_put (d := 43) (v := .d (.fl (.int .i64 d))) rfl (og rfl (op_move rfl rfl rfl)) ?_
              refine rg_put (d := 44) (v := .d (.fl (.int .i64 d))) rfl (og rfl (op_move rfl rfl rfl)) ?_
              refine rg_put (d := 45) (v := .d (.fl (.int .i64 c))) rfl (og rfl (op_move rfl rfl rfl)) ?_
              refine rg_put (d := 46) (v := .d (.ag (eXCase ((XCase.mk id p k d d 1 c 0 0 (XAppeal.mk 0 0 0)))))) rfl (og rfl (of_eff (op_build rfl Tryd.underlying35 ti35 rfl (by kernel_rfl) (by kernel_rfl) (pl := #[(0, 1), (1, 1), (2, 1), (3, 1), (4, 1), (5, 1), (6, 1), (7, 1), (8, 1), (9, 3)]) (by kernel_rfl) (.cons rfl rfl (.d _) rfl rfl rfl (.cons rfl rfl (.d _) rfl rfl rfl (.cons rfl rfl (.d _) rfl rfl rfl (.cons rfl rfl (.d _) rfl rfl rfl (.cons rfl rfl (.d _) rfl rfl rfl (.cons rfl rfl (.d _) rfl rfl rfl (.cons rfl rfl (.d _) rfl rfl rfl .nil))))))) rfl) rfl)) ?_
              refine rg_sto (nw := [(101, .bx 35 ((eXCase ((XCase.mk id p k d d 1 c 0 0 (XAppeal.mk 0 0 0))))))]) rfl (og rfl (of_eff (s_store rfl rfl ti35 rfl rfl rfl rfl rfl rfl) rfl)) ?_
              refine rg_put (d := 11) (v := .d (.fl (.int .i64 0))) rfl (og rfl (op_assign rfl rfl rfl)) ?_
              refine rg_done rfl ?_
              refine a_ret ?_
              show ∃ ds, ResL _ _ _ ds ∧ RV.of ds = _
              refine ⟨[.ag [.fl (.string ((XCase.mk id p k d d 1 c 0 0 (XAppeal.mk 0 0 0)).idx)), .fl (.string ((XCase.mk id p k d d 1 c 0 0 (XAppeal.mk 0 0 0)).platex)), .fl (.string ((XCase.mk id p k d d 1 c 0 0 (XAppeal.mk 0 0 0)).keyx)), .fl (.int .i64 ((XCase.mk id p k d d 1 c 0 0 (XAppeal.mk 0 0 0)).begunx)), .fl (.int .i64 ((XCase.mk id p k d d 1 c 0 0 (XAppeal.mk 0 0 0)).sincex)), .fl (.int .i64 ((XCase.mk id p k d d 1 c 0 0 (XAppeal.mk 0 0 0)).stagex)), .fl (.int .i64 ((XCase.mk id p k d d 1 c 0 0 (XAppeal.mk 0 0 0)).owedx)), .fl (.int .i64 ((XCase.mk id p k d d 1 c 0 0 (XAppeal.mk 0 0 0)).paidx)), .fl (.int .i64 ((XCase.mk id p k d d 1 c 0 0 (XAppeal.mk 0 0 0)).pausedx)), .fl (.int .i64 (((XCase.mk id p k d d 1 c 0 0 (XAppeal.mk 0 0 0)).appealx).statex)), .fl (.int .i64 (((XCase.mk id p k d d 1 c 0 0 (XAppeal.mk 0 0 0)).appealx).groundx)), .fl (.int .i64 (((XCase.mk id p k d d 1 c 0 0 (XAppeal.mk 0 0 0)).appealx).dayx))], .fl (.int .i64 0)], (.cons (.cellT rfl rfl Tryd.underlying35 rfl ti35 rfl (Cv.ag (xs := [.fl (.string ((XCase.mk id p k d d 1 c 0 0 (XAppeal.mk 0 0 0)).idx)), .fl (.string ((XCase.mk id p k d d 1 c 0 0 (XAppeal.mk 0 0 0)).platex)), .fl (.string ((XCase.mk id p k d d 1 c 0 0 (XAppeal.mk 0 0 0)).keyx)), .fl (.int .i64 ((XCase.mk id p k d d 1 c 0 0 (XAppeal.mk 0 0 0)).begunx)), .fl (.int .i64 ((XCase.mk id p k d d 1 c 0 0 (XAppeal.mk 0 0 0)).sincex)), .fl (.int .i64 ((XCase.mk id p k d d 1 c 0 0 (XAppeal.mk 0 0 0)).stagex)), .fl (.int .i64 ((XCase.mk id p k d d 1 c 0 0 (XAppeal.mk 0 0 0)).owedx)), .fl (.int .i64 ((XCase.mk id p k d d 1 c 0 0 (XAppeal.mk 0 0 0)).paidx)), .fl (.int .i64 ((XCase.mk id p k d d 1 c 0 0 (XAppeal.mk 0 0 0)).pausedx)), .fl (.int .i64 (((XCase.mk id p k d d 1 c 0 0 (XAppeal.mk 0 0 0)).appealx).statex)), .fl (.int .i64 (((XCase.mk id p k d d 1 c 0 0 (XAppeal.mk 0 0 0)).appealx).groundx)), .fl (.int .i64 (((XCase.mk id p k d d 1 c 0 0 (XAppeal.mk 0 0 0)).appealx).dayx))]) (ys := [.fl (.string ((XCase.mk id p k d d 1 c 0 0 (XAppeal.mk 0 0 0)).idx)), .fl (.string ((XCase.mk id p k d d 1 c 0 0 (XAppeal.mk 0 0 0)).platex)), .fl (.string ((XCase.mk id p k d d 1 c 0 0 (XAppeal.mk 0 0 0)).keyx)), .fl (.int .i64 ((XCase.mk id p k d d 1 c 0 0 (XAppeal.mk 0 0 0)).begunx)), .fl (.int .i64 ((XCase.mk id p k d d 1 c 0 0 (XAppeal.mk 0 0 0)).sincex)), .fl (.int .i64 ((XCase.mk id p k d d 1 c 0 0 (XAppeal.mk 0 0 0)).stagex)), .fl (.int .i64 ((XCase.mk id p k d d 1 c 0 0 (XAppeal.mk 0 0 0)).owedx)), .fl (.int .i64 ((XCase.mk id p k d d 1 c 0 0 (XAppeal.mk 0 0 0)).paidx)), .fl (.int .i64 ((XCase.mk id p k d d 1 c 0 0 (XAppeal.mk 0 0 0)).pausedx)), .fl (.int .i64 (((XCase.mk id p k d d 1 c 0 0 (XAppeal.mk 0 0 0)).appealx).statex)), .fl (.int .i64 (((XCase.mk id p k d d 1 c 0 0 (XAppeal.mk 0 0 0)).appealx).groundx)), .fl (.int .i64 (((XCase.mk id p k d d 1 c 0 0 (XAppeal.mk 0 0 0)).appealx).dayx))]) ⟨Cv.refl _, Cv.refl _, Cv.refl _, Cv.refl _, Cv.refl _, Cv.refl _, Cv.refl _, Cv.refl _, Cv.refl _, Cv.refl _, Cv.refl _, Cv.refl _, trivial⟩)) (.cons (.tmp rfl (.d _)) .nil)), ?_⟩
              have hu : newE id p k c d = 0 := by unfold newE; simp only [h1, h3, h4, h6, h7, h9, h10, h12, h15, h17, Bool.true_or, Bool.false_or, Bool.or_true, Bool.or_false, Bool.not_true, Bool.not_false, cond_true, cond_false, Bool.true_and, Bool.false_and, Bool.and_true, Bool.and_false]
              rw [newC_ok hu, hu]; rfl
        · skip
          have h18 := t_dec h10
          refine rg_put (d := 31) (v := .d (.fl undef)) rfl (on rfl rfl rfl h10) ?_
          refine rg_put (d := 32) (v := .d (.fl undef)) rfl (on rfl rfl rfl h10) ?_
          refine rg_put (d := 33) (v := .d (.fl (.bool true))) rfl (og rfl (op_pick rfl rfl (by rw [h10]; rfl) rfl)) ?_
          refine rg_put (d := 27) (v := .d (.fl (.bool true))) rfl (og rfl (op_assign rfl rfl rfl)) ?_
          refine rg_done rfl ?_
          refine a_condK rfl rfl ?_
          refine a_rseq ?_
          refine rg_put (d := 34) (v := .d (.ag (eXCase ((XCase.mk (⟨#[]⟩) (⟨#[]⟩) (⟨#[]⟩) 0 0 0 0 0 0 (XAppeal.mk 0 0 0)))))) rfl (og rfl (of_eff (op_build rfl Tryd.underlying35 ti35 rfl (by kernel_rfl) (by kernel_rfl) (pl := #[(0, 1), (1, 1), (2, 1), (3, 1), (4, 1), (5, 1), (6, 1), (7, 1), (8, 1), (9, 3)]) (by kernel_rfl) .nil rfl) rfl)) ?_
          refine rg_sto (nw := [(101, .bx 35 ((eXCase ((XCase.mk (⟨#[]⟩) (⟨#[]⟩) (⟨#[]⟩) 0 0 0 0 0 0 (XAppeal.mk 0 0 0))))))]) rfl (og rfl (of_eff (s_store rfl rfl ti35 rfl rfl rfl rfl rfl rfl) rfl)) ?_
          refine rg_put (d := 11) (v := .d (.fl (.int .i64 13))) rfl (og rfl (op_assign rfl rfl rfl)) ?_
          refine rg_done rfl ?_
          refine a_ret ?_
          show ∃ ds, ResL _ _ _ ds ∧ RV.of ds = _
          refine ⟨[.ag [.fl (.string ((XCase.mk (⟨#[]⟩) (⟨#[]⟩) (⟨#[]⟩) 0 0 0 0 0 0 (XAppeal.mk 0 0 0)).idx)), .fl (.string ((XCase.mk (⟨#[]⟩) (⟨#[]⟩) (⟨#[]⟩) 0 0 0 0 0 0 (XAppeal.mk 0 0 0)).platex)), .fl (.string ((XCase.mk (⟨#[]⟩) (⟨#[]⟩) (⟨#[]⟩) 0 0 0 0 0 0 (XAppeal.mk 0 0 0)).keyx)), .fl (.int .i64 ((XCase.mk (⟨#[]⟩) (⟨#[]⟩) (⟨#[]⟩) 0 0 0 0 0 0 (XAppeal.mk 0 0 0)).begunx)), .fl (.int .i64 ((XCase.mk (⟨#[]⟩) (⟨#[]⟩) (⟨#[]⟩) 0 0 0 0 0 0 (XAppeal.mk 0 0 0)).sincex)), .fl (.int .i64 ((XCase.mk (⟨#[]⟩) (⟨#[]⟩) (⟨#[]⟩) 0 0 0 0 0 0 (XAppeal.mk 0 0 0)).stagex)), .fl (.int .i64 ((XCase.mk (⟨#[]⟩) (⟨#[]⟩) (⟨#[]⟩) 0 0 0 0 0 0 (XAppeal.mk 0 0 0)).owedx)), .fl (.int .i64 ((XCase.mk (⟨#[]⟩) (⟨#[]⟩) (⟨#[]⟩) 0 0 0 0 0 0 (XAppeal.mk 0 0 0)).paidx)), .fl (.int .i64 ((XCase.mk (⟨#[]⟩) (⟨#[]⟩) (⟨#[]⟩) 0 0 0 0 0 0 (XAppeal.mk 0 0 0)).pausedx)), .fl (.int .i64 (((XCase.mk (⟨#[]⟩) (⟨#[]⟩) (⟨#[]⟩) 0 0 0 0 0 0 (XAppeal.mk 0 0 0)).appealx).statex)), .fl (.int .i64 (((XCase.mk (⟨#[]⟩) (⟨#[]⟩) (⟨#[]⟩) 0 0 0 0 0 0 (XAppeal.mk 0 0 0)).appealx).groundx)), .fl (.int .i64 (((XCase.mk (⟨#[]⟩) (⟨#[]⟩) (⟨#[]⟩) 0 0 0 0 0 0 (XAppeal.mk 0 0 0)).appealx).dayx))], .fl (.int .i64 13)], (.cons (.cellT rfl rfl Tryd.underlying35 rfl ti35 rfl (Cv.ag (xs := [.fl (.string ((XCase.mk (⟨#[]⟩) (⟨#[]⟩) (⟨#[]⟩) 0 0 0 0 0 0 (XAppeal.mk 0 0 0)).idx)), .fl (.string ((XCase.mk (⟨#[]⟩) (⟨#[]⟩) (⟨#[]⟩) 0 0 0 0 0 0 (XAppeal.mk 0 0 0)).platex)), .fl (.string ((XCase.mk (⟨#[]⟩) (⟨#[]⟩) (⟨#[]⟩) 0 0 0 0 0 0 (XAppeal.mk 0 0 0)).keyx)), .fl (.int .i64 ((XCase.mk (⟨#[]⟩) (⟨#[]⟩) (⟨#[]⟩) 0 0 0 0 0 0 (XAppeal.mk 0 0 0)).begunx)), .fl (.int .i64 ((XCase.mk (⟨#[]⟩) (⟨#[]⟩) (⟨#[]⟩) 0 0 0 0 0 0 (XAppeal.mk 0 0 0)).sincex)), .fl (.int .i64 ((XCase.mk (⟨#[]⟩) (⟨#[]⟩) (⟨#[]⟩) 0 0 0 0 0 0 (XAppeal.mk 0 0 0)).stagex)), .fl (.int .i64 ((XCase.mk (⟨#[]⟩) (⟨#[]⟩) (⟨#[]⟩) 0 0 0 0 0 0 (XAppeal.mk 0 0 0)).owedx)), .fl (.int .i64 ((XCase.mk (⟨#[]⟩) (⟨#[]⟩) (⟨#[]⟩) 0 0 0 0 0 0 (XAppeal.mk 0 0 0)).paidx)), .fl (.int .i64 ((XCase.mk (⟨#[]⟩) (⟨#[]⟩) (⟨#[]⟩) 0 0 0 0 0 0 (XAppeal.mk 0 0 0)).pausedx)), .fl (.int .i64 (((XCase.mk (⟨#[]⟩) (⟨#[]⟩) (⟨#[]⟩) 0 0 0 0 0 0 (XAppeal.mk 0 0 0)).appealx).statex)), .fl (.int .i64 (((XCase.mk (⟨#[]⟩) (⟨#[]⟩) (⟨#[]⟩) 0 0 0 0 0 0 (XAppeal.mk 0 0 0)).appealx).groundx)), .fl (.int .i64 (((XCase.mk (⟨#[]⟩) (⟨#[]⟩) (⟨#[]⟩) 0 0 0 0 0 0 (XAppeal.mk 0 0 0)).appealx).dayx))]) (ys := [.fl (.string ((XCase.mk (⟨#[]⟩) (⟨#[]⟩) (⟨#[]⟩) 0 0 0 0 0 0 (XAppeal.mk 0 0 0)).idx)), .fl (.string ((XCase.mk (⟨#[]⟩) (⟨#[]⟩) (⟨#[]⟩) 0 0 0 0 0 0 (XAppeal.mk 0 0 0)).platex)), .fl (.string ((XCase.mk (⟨#[]⟩) (⟨#[]⟩) (⟨#[]⟩) 0 0 0 0 0 0 (XAppeal.mk 0 0 0)).keyx)), .fl (.int .i64 ((XCase.mk (⟨#[]⟩) (⟨#[]⟩) (⟨#[]⟩) 0 0 0 0 0 0 (XAppeal.mk 0 0 0)).begunx)), .fl (.int .i64 ((XCase.mk (⟨#[]⟩) (⟨#[]⟩) (⟨#[]⟩) 0 0 0 0 0 0 (XAppeal.mk 0 0 0)).sincex)), .fl (.int .i64 ((XCase.mk (⟨#[]⟩) (⟨#[]⟩) (⟨#[]⟩) 0 0 0 0 0 0 (XAppeal.mk 0 0 0)).stagex)), .fl (.int .i64 ((XCase.mk (⟨#[]⟩) (⟨#[]⟩) (⟨#[]⟩) 0 0 0 0 0 0 (XAppeal.mk 0 0 0)).owedx)), .fl (.int .i64 ((XCase.mk (⟨#[]⟩) (⟨#[]⟩) (⟨#[]⟩) 0 0 0 0 0 0 (XAppeal.mk 0 0 0)).paidx)), .fl (.int .i64 ((XCase.mk (⟨#[]⟩) (⟨#[]⟩) (⟨#[]⟩) 0 0 0 0 0 0 (XAppeal.mk 0 0 0)).pausedx)), .fl (.int .i64 (((XCase.mk (⟨#[]⟩) (⟨#[]⟩) (⟨#[]⟩) 0 0 0 0 0 0 (XAppeal.mk 0 0 0)).appealx).statex)), .fl (.int .i64 (((XCase.mk (⟨#[]⟩) (⟨#[]⟩) (⟨#[]⟩) 0 0 0 0 0 0 (XAppeal.mk 0 0 0)).appealx).groundx)), .fl (.int .i64 (((XCase.mk (⟨#[]⟩) (⟨#[]⟩) (⟨#[]⟩) 0 0 0 0 0 0 (XAppeal.mk 0 0 0)).appealx).dayx))]) ⟨Cv.refl _, Cv.refl _, Cv.refl _, Cv.refl _, Cv.refl _, Cv.refl _, Cv.refl _, Cv.refl _, Cv.refl _, Cv.refl _, Cv.refl _, Cv.refl _, trivial⟩)) (.cons (.tmp rfl (.d _)) .nil)), ?_⟩
          have hu : newE id p k c d = 13 := by unfold newE; simp only [h1, h3, h4, h6, h7, h9, h10, Bool.true_or, Bool.false_or, Bool.or_true, Bool.or_false, Bool.not_true, Bool.not_false, cond_true, cond_false, Bool.true_and, Bool.false_and, Bool.and_true, Bool.and_false]
          rw [newC_bad hu (by decide), hu]; rfl
set_option maxHeartbeats 4000000 in
set_option maxRecDepth 100000 in
theorem newR (id p k : ByteArray) (c d : Int) (hp : p.size ≤ 100000) : Ctr Tryd.prog 12 [.fl (.string id), .fl (.string p), .fl (.string k), .fl (.int .i64 c), .fl (.int .i64 d)] (.tu [.ag (eXCase (newC id p k c d)), .fl (.int .i64 (newE id p k c d))]) := by
  refine ctr (n := 58) (rs := #[.cell 10 35, .tmp 11]) (L := [(0, .d (.fl (.string id))), (1, .d (.fl (.string p))), (2, .d (.fl (.string k))), (3, .d (.fl (.int .i64 c))), (4, .d (.fl (.int .i64 d)))]) Tryd.func12 rfl rfl rfl rfl rfl (fun w0 U0 => ?_)
  refine a_rseq ?_
  refine rg_nam (d := 10) (v := .pt 101 0) (m := 101) (nw := [(101, .bx 35 ([.fl (.string (⟨#[]⟩)), .fl (.string (⟨#[]⟩)), .fl (.string (⟨#[]⟩)), .fl (.int .i64 0), .fl (.int .i64 0), .fl (.int .i64 0), .fl (.int .i64 0), .fl (.int .i64 0), .fl (.int .i64 0), .fl (.int .i64 0), .fl (.int .i64 0), .fl (.int .i64 0)]))]) rfl (og rfl (of_eff (s_alloc 101 rfl ti35 (by kernel_rfl) rfl) rfl)) rfl ?_
  refine rg_put (d := 11) (v := .d (.fl (.int .i64 0))) rfl (og rfl (op_assign rfl rfl rfl)) ?_
  refine rg_done rfl ?_
  refine a_seq ?_
  refine a_rseq ?_
  refine rg_put (d := 14) (v := .d (.fl (.string id))) rfl (og rfl (op_move rfl rfl rfl)) ?_
  refine rg_put (d := 15) (v := .d (.fl (.bool (isF id)))) rfl (og rfl (op_call rfl Tryd.func31 nm31 rfl (.cons rfl (.d _) .nil) (isFC31 id) rfl)) ?_
  refine rg_put (d := 16) (v := .d (.fl (.bool ((!(isF id)))))) rfl (og rfl (op_un rfl rfl (u_not _) rfl)) ?_
  refine rg_done rfl ?_
  refine a_cond rfl (fun h1 => ?_) (fun h1 => ?_)
  · skip
    have h2 := t_not h1
    refine a_rseq ?_
    refine rg_put (d := 17) (v := .d (.ag (eXCase ((XCase.mk (⟨#[]⟩) (⟨#[]⟩) (⟨#[]⟩) 0 0 0 0 0 0 (XAppeal.mk 0 0 0)))))) rfl (og rfl (of_eff (op_build rfl Tryd.underlying35 ti35 rfl (by kernel_rfl) (by kernel_rfl) (pl := #[(0, 1), (1, 1), (2, 1), (3, 1), (4, 1), (5, 1), (6, 1), (7, 1), (8, 1), (9, 3)]) (by kernel_rfl) .nil rfl) rfl)) ?_
    refine rg_sto (nw := [(101, .bx 35 ((eXCase ((XCase.mk (⟨#[]⟩) (⟨#[]⟩) (⟨#[]⟩) 0 0 0 0 0 0 (XAppeal.mk 0 0 0))))))]) rfl (og rfl (of_eff (s_store rfl rfl ti35 rfl rfl rfl rfl rfl rfl) rfl)) ?_
    refine rg_put (d := 11) (v := .d (.fl (.int .i64 5))) rfl (og rfl (op_assign rfl rfl rfl)) ?_
    refine rg_done rfl ?_
    refine a_ret ?_
    show ∃ ds, ResL _ _ _ ds ∧ RV.of ds = _
    refine ⟨[.ag [.fl (.string ((XCase.mk (⟨#[]⟩) (⟨#[]⟩) (⟨#[]⟩) 0 0 0 0 0 0 (XAppeal.mk 0 0 0)).idx)), .fl (.string ((XCase.mk (⟨#[]⟩) (⟨#[]⟩) (⟨#[]⟩) 0 0 0 0 0 0 (XAppeal.mk 0 0 0)).platex)), .fl (.string ((XCase.mk (⟨#[]⟩) (⟨#[]⟩) (⟨#[]⟩) 0 0 0 0 0 0 (XAppeal.mk 0 0 0)).keyx)), .fl (.int .i64 ((XCase.mk (⟨#[]⟩) (⟨#[]⟩) (⟨#[]⟩) 0 0 0 0 0 0 (XAppeal.mk 0 0 0)).begunx)), .fl (.int .i64 ((XCase.mk (⟨#[]⟩) (⟨#[]⟩) (⟨#[]⟩) 0 0 0 0 0 0 (XAppeal.mk 0 0 0)).sincex)), .fl (.int .i64 ((XCase.mk (⟨#[]⟩) (⟨#[]⟩) (⟨#[]⟩) 0 0 0 0 0 0 (XAppeal.mk 0 0 0)).stagex)), .fl (.int .i64 ((XCase.mk (⟨#[]⟩) (⟨#[]⟩) (⟨#[]⟩) 0 0 0 0 0 0 (XAppeal.mk 0 0 0)).owedx)), .fl (.int .i64 ((XCase.mk (⟨#[]⟩) (⟨#[]⟩) (⟨#[]⟩) 0 0 0 0 0 0 (XAppeal.mk 0 0 0)).paidx)), .fl (.int .i64 ((XCase.mk (⟨#[]⟩) (⟨#[]⟩) (⟨#[]⟩) 0 0 0 0 0 0 (XAppeal.mk 0 0 0)).pausedx)), .fl (.int .i64 (((XCase.mk (⟨#[]⟩) (⟨#[]⟩) (⟨#[]⟩) 0 0 0 0 0 0 (XAppeal.mk 0 0 0)).appealx).statex)), .fl (.int .i64 (((XCase.mk (⟨#[]⟩) (⟨#[]⟩) (⟨#[]⟩) 0 0 0 0 0 0 (XAppeal.mk 0 0 0)).appealx).groundx)), .fl (.int .i64 (((XCase.mk (⟨#[]⟩) (⟨#[]⟩) (⟨#[]⟩) 0 0 0 0 0 0 (XAppeal.mk 0 0 0)).appealx).dayx))], .fl (.int .i64 5)], (.cons (.cellT rfl rfl Tryd.underlying35 rfl ti35 rfl (Cv.ag (xs := [.fl (.string ((XCase.mk (⟨#[]⟩) (⟨#[]⟩) (⟨#[]⟩) 0 0 0 0 0 0 (XAppeal.mk 0 0 0)).idx)), .fl (.string ((XCase.mk (⟨#[]⟩) (⟨#[]⟩) (⟨#[]⟩) 0 0 0 0 0 0 (XAppeal.mk 0 0 0)).platex)), .fl (.string ((XCase.mk (⟨#[]⟩) (⟨#[]⟩) (⟨#[]⟩) 0 0 0 0 0 0 (XAppeal.mk 0 0 0)).keyx)), .fl (.int .i64 ((XCase.mk (⟨#[]⟩) (⟨#[]⟩) (⟨#[]⟩) 0 0 0 0 0 0 (XAppeal.mk 0 0 0)).begunx)), .fl (.int .i64 ((XCase.mk (⟨#[]⟩) (⟨#[]⟩) (⟨#[]⟩) 0 0 0 0 0 0 (XAppeal.mk 0 0 0)).sincex)), .fl (.int .i64 ((XCase.mk (⟨#[]⟩) (⟨#[]⟩) (⟨#[]⟩) 0 0 0 0 0 0 (XAppeal.mk 0 0 0)).stagex)), .fl (.int .i64 ((XCase.mk (⟨#[]⟩) (⟨#[]⟩) (⟨#[]⟩) 0 0 0 0 0 0 (XAppeal.mk 0 0 0)).owedx)), .fl (.int .i64 ((XCase.mk (⟨#[]⟩) (⟨#[]⟩) (⟨#[]⟩) 0 0 0 0 0 0 (XAppeal.mk 0 0 0)).paidx)), .fl (.int .i64 ((XCase.mk (⟨#[]⟩) (⟨#[]⟩) (⟨#[]⟩) 0 0 0 0 0 0 (XAppeal.mk 0 0 0)).pausedx)), .fl (.int .i64 (((XCase.mk (⟨#[]⟩) (⟨#[]⟩) (⟨#[]⟩) 0 0 0 0 0 0 (XAppeal.mk 0 0 0)).appealx).statex)), .fl (.int .i64 (((XCase.mk (⟨#[]⟩) (⟨#[]⟩) (⟨#[]⟩) 0 0 0 0 0 0 (XAppeal.mk 0 0 0)).appealx).groundx)), .fl (.int .i64 (((XCase.mk (⟨#[]⟩) (⟨#[]⟩) (⟨#[]⟩) 0 0 0 0 0 0 (XAppeal.mk 0 0 0)).appealx).dayx))]) (ys := [.fl (.string ((XCase.mk (⟨#[]⟩) (⟨#[]⟩) (⟨#[]⟩) 0 0 0 0 0 0 (XAppeal.mk 0 0 0)).idx)), .fl (.string ((XCase.mk (⟨#[]⟩) (⟨#[]⟩) (⟨#[]⟩) 0 0 0 0 0 0 (XAppeal.mk 0 0 0)).platex)), .fl (.string ((XCase.mk (⟨#[]⟩) (⟨#[]⟩) (⟨#[]⟩) 0 0 0 0 0 0 (XAppeal.mk 0 0 0)).keyx)), .fl (.int .i64 ((XCase.mk (⟨#[]⟩) (⟨#[]⟩) (⟨#[]⟩) 0 0 0 0 0 0 (XAppeal.mk 0 0 0)).begunx)), .fl (.int .i64 ((XCase.mk (⟨#[]⟩) (⟨#[]⟩) (⟨#[]⟩) 0 0 0 0 0 0 (XAppeal.mk 0 0 0)).sincex)), .fl (.int .i64 ((XCase.mk (⟨#[]⟩) (⟨#[]⟩) (⟨#[]⟩) 0 0 0 0 0 0 (XAppeal.mk 0 0 0)).stagex)), .fl (.int .i64 ((XCase.mk (⟨#[]⟩) (⟨#[]⟩) (⟨#[]⟩) 0 0 0 0 0 0 (XAppeal.mk 0 0 0)).owedx)), .fl (.int .i64 ((XCase.mk (⟨#[]⟩) (⟨#[]⟩) (⟨#[]⟩) 0 0 0 0 0 0 (XAppeal.mk 0 0 0)).paidx)), .fl (.int .i64 ((XCase.mk (⟨#[]⟩) (⟨#[]⟩) (⟨#[]⟩) 0 0 0 0 0 0 (XAppeal.mk 0 0 0)).pausedx)), .fl (.int .i64 (((XCase.mk (⟨#[]⟩) (⟨#[]⟩) (⟨#[]⟩) 0 0 0 0 0 0 (XAppeal.mk 0 0 0)).appealx).statex)), .fl (.int .i64 (((XCase.mk (⟨#[]⟩) (⟨#[]⟩) (⟨#[]⟩) 0 0 0 0 0 0 (XAppeal.mk 0 0 0)).appealx).groundx)), .fl (.int .i64 (((XCase.mk (⟨#[]⟩) (⟨#[]⟩) (⟨#[]⟩) 0 0 0 0 0 0 (XAppeal.mk 0 0 0)).appealx).dayx))]) ⟨Cv.refl _, Cv.refl _, Cv.refl _, Cv.refl _, Cv.refl _, Cv.refl _, Cv.refl _, Cv.refl _, Cv.refl _, Cv.refl _, Cv.refl _, Cv.refl _, trivial⟩)) (.cons (.tmp rfl (.d _)) .nil)), ?_⟩
    have hu : newE id p k c d = 5 := by unfold newE; simp only [h1, h2, Bool.true_or, Bool.false_or, Bool.or_true, Bool.or_false, Bool.not_true, Bool.not_false, cond_true, cond_false, Bool.true_and, Bool.false_and, Bool.and_true, Bool.and_false]
    rw [newC_bad hu (by decide), hu]; rfl
  · skip
    have h3 := f_not h1
    refine a_skip ?_
    show A _ _ _ _ _ _ _
    refine a_rseq ?_
    refine rg_put (d := 19) (v := .d (.fl (.string p))) rfl (og rfl (op_move rfl rfl rfl)) ?_
    refine rg_put (d := 20) (v := .tu [.fl (.string (nmS p)), .fl (.int .i64 (nmI p))]) rfl (og rfl (op_call rfl Tryd.func8 nm8 rfl (.cons rfl (.d _) .nil) (norR p (by omega)) rfl)) ?_
    refine rg_put (d := 18) (v := .tu [.fl (.string (nmS p)), .fl (.int .i64 (nmI p))]) rfl (og rfl (op_move rfl rfl rfl)) ?_
    refine rg_put (d := 21) (v := .d (.fl (.string (nmS p)))) rfl (og rfl (op_extract rfl rfl rfl rfl)) ?_
    refine rg_put (d := 22) (v := .d (.fl (.int .i64 (nmI p)))) rfl (og rfl (op_extract rfl rfl rfl rfl)) ?_
    refine rg_put (d := 12) (v := .d (.fl (.string (nmS p)))) rfl (og rfl (op_assign rfl rfl rfl)) ?_
    refine rg_put (d := 13) (v := .d (.fl (.int .i64 (nmI p)))) rfl (og rfl (op_assign rfl rfl rfl)) ?_
    refine rg_done rfl ?_
    refine a_seq ?_
    refine a_rseq ?_
    refine rg_put (d := 23) (v := .d (.fl (.int .i64 (nmI p)))) rfl (og rfl (op_move rfl rfl rfl)) ?_
    refine rg_put (d := 24) (v := .d (.fl (.bool (((nmI p) != 0))))) rfl (og rfl (op_bin rfl rfl rfl (b_neq _ _ _ _) rfl)) ?_
    refine rg_put (d := 25) (v := .d (.fl (.bool (((nmI p) != 0))))) rfl (og rfl (op_move rfl rfl rfl)) ?_
    rcases fot (((nmI p) != 0)) with h4 | h4
    · skip
      have h5 := f_bne h4
      refine rg_put (d := 26) (v := .d (.fl (.string (nmS p)))) rfl (oy rfl rfl rfl h4 (op_move rfl rfl rfl)) ?_
      refine rg_put (d := 27) (v := .d (.fl (.string p))) rfl (oy rfl rfl rfl h4 (op_move rfl rfl rfl)) ?_
      refine rg_put (d := 28) (v := .d (.fl (.bool ((!(sEq (nmS p) p)))))) rfl (oy rfl rfl rfl h4 (op_bin rfl rfl rfl (b_sne _ _ _) rfl)) ?_
      refine rg_put (d := 29) (v := .d (.fl (.bool ((!(sEq (nmS p) p)))))) rfl (og rfl (op_pick rfl rfl (by rw [h4]; rfl) rfl)) ?_
      refine rg_put (d := 30) (v := .d (.fl (.bool ((!(sEq (nmS p) p)))))) rfl (og rfl (op_move rfl rfl rfl)) ?_
      rcases fot ((!(sEq (nmS p) p))) with h6 | h6
      · skip
        have h7 := f_not h6
        refine rg_put (d := 31) (v := .d (.fl undef)) rfl (on rfl rfl rfl h6) ?_
        refine rg_put (d := 32) (v := .d (.fl undef)) rfl (on rfl rfl rfl h6) ?_
        refine rg_put (d := 33) (v := .d (.fl undef)) rfl (on rfl rfl rfl h6) ?_
        refine rg_put (d := 34) (v := .d (.fl (.bool false))) rfl (og rfl (op_pick rfl rfl (by rw [h6]; rfl) rfl)) ?_
        refine rg_done rfl ?_
        refine a_condF rfl rfl ?_
        refine a_skip ?_
        show A _ _ _ _ _ _ _
        refine a_seq ?_
        refine a_rseq ?_
        refine rg_put (d := 36) (v := .d (.fl (.string k))) rfl (og rfl (op_move rfl rfl rfl)) ?_
        refine rg_put (d := 37) (v := .d (.fl (.bool (isF k)))) rfl (og rfl (op_call rfl Tryd.func31 nm31 rfl (.cons rfl (.d _) .nil) (isFC31 k) rfl)) ?_
        refine rg_put (d := 38) (v := .d (.fl (.bool ((!(isF k)))))) rfl (og rfl (op_un rfl rfl (u_not _) rfl)) ?_
        refine rg_done rfl ?_
        refine a_cond rfl (fun h8 => ?_) (fun h8 => ?_)
        · skip
          have h9 := t_not h8
          refine a_rseq ?_
          refine rg_put (d := 39) (v := .d (.ag (eXCase ((XCase.mk (⟨#[]⟩) (⟨#[]⟩) (⟨#[]⟩) 0 0 0 0 0 0 (XAppeal.mk 0 0 0)))))) rfl (og rfl (of_eff (op_build rfl Tryd.underlying35 ti35 rfl (by kernel_rfl) (by kernel_rfl) (pl := #[(0, 1), (1, 1), (2, 1), (3, 1), (4, 1), (5, 1), (6, 1), (7, 1), (8, 1), (9, 3)]) (by kernel_rfl) .nil rfl) rfl)) ?_
          refine rg_sto (nw := [(101, .bx 35 ((eXCase ((XCase.mk (⟨#[]⟩) (⟨#[]⟩) (⟨#[]⟩) 0 0 0 0 0 0 (XAppeal.mk 0 0 0))))))]) rfl (og rfl (of_eff (s_store rfl rfl ti35 rfl rfl rfl rfl rfl rfl) rfl)) ?_
          refine rg_put (d := 11) (v := .d (.fl (.int .i64 5))) rfl (og rfl (op_assign rfl rfl rfl)) ?_
          refine rg_done rfl ?_
          refine a_ret ?_
          show ∃ ds, ResL _ _ _ ds ∧ RV.of ds = _
          refine ⟨[.ag [.fl (.string ((XCase.mk (⟨#[]⟩) (⟨#[]⟩) (⟨#[]⟩) 0 0 0 0 0 0 (XAppeal.mk 0 0 0)).idx)), .fl (.string ((XCase.mk (⟨#[]⟩) (⟨#[]⟩) (⟨#[]⟩) 0 0 0 0 0 0 (XAppeal.mk 0 0 0)).platex)), .fl (.string ((XCase.mk (⟨#[]⟩) (⟨#[]⟩) (⟨#[]⟩) 0 0 0 0 0 0 (XAppeal.mk 0 0 0)).keyx)), .fl (.int .i64 ((XCase.mk (⟨#[]⟩) (⟨#[]⟩) (⟨#[]⟩) 0 0 0 0 0 0 (XAppeal.mk 0 0 0)).begunx)), .fl (.int .i64 ((XCase.mk (⟨#[]⟩) (⟨#[]⟩) (⟨#[]⟩) 0 0 0 0 0 0 (XAppeal.mk 0 0 0)).sincex)), .fl (.int .i64 ((XCase.mk (⟨#[]⟩) (⟨#[]⟩) (⟨#[]⟩) 0 0 0 0 0 0 (XAppeal.mk 0 0 0)).stagex)), .fl (.int .i64 ((XCase.mk (⟨#[]⟩) (⟨#[]⟩) (⟨#[]⟩) 0 0 0 0 0 0 (XAppeal.mk 0 0 0)).owedx)), .fl (.int .i64 ((XCase.mk (⟨#[]⟩) (⟨#[]⟩) (⟨#[]⟩) 0 0 0 0 0 0 (XAppeal.mk 0 0 0)).paidx)), .fl (.int .i64 ((XCase.mk (⟨#[]⟩) (⟨#[]⟩) (⟨#[]⟩) 0 0 0 0 0 0 (XAppeal.mk 0 0 0)).pausedx)), .fl (.int .i64 (((XCase.mk (⟨#[]⟩) (⟨#[]⟩) (⟨#[]⟩) 0 0 0 0 0 0 (XAppeal.mk 0 0 0)).appealx).statex)), .fl (.int .i64 (((XCase.mk (⟨#[]⟩) (⟨#[]⟩) (⟨#[]⟩) 0 0 0 0 0 0 (XAppeal.mk 0 0 0)).appealx).groundx)), .fl (.int .i64 (((XCase.mk (⟨#[]⟩) (⟨#[]⟩) (⟨#[]⟩) 0 0 0 0 0 0 (XAppeal.mk 0 0 0)).appealx).dayx))], .fl (.int .i64 5)], (.cons (.cellT rfl rfl Tryd.underlying35 rfl ti35 rfl (Cv.ag (xs := [.fl (.string ((XCase.mk (⟨#[]⟩) (⟨#[]⟩) (⟨#[]⟩) 0 0 0 0 0 0 (XAppeal.mk 0 0 0)).idx)), .fl (.string ((XCase.mk (⟨#[]⟩) (⟨#[]⟩) (⟨#[]⟩) 0 0 0 0 0 0 (XAppeal.mk 0 0 0)).platex)), .fl (.string ((XCase.mk (⟨#[]⟩) (⟨#[]⟩) (⟨#[]⟩) 0 0 0 0 0 0 (XAppeal.mk 0 0 0)).keyx)), .fl (.int .i64 ((XCase.mk (⟨#[]⟩) (⟨#[]⟩) (⟨#[]⟩) 0 0 0 0 0 0 (XAppeal.mk 0 0 0)).begunx)), .fl (.int .i64 ((XCase.mk (⟨#[]⟩) (⟨#[]⟩) (⟨#[]⟩) 0 0 0 0 0 0 (XAppeal.mk 0 0 0)).sincex)), .fl (.int .i64 ((XCase.mk (⟨#[]⟩) (⟨#[]⟩) (⟨#[]⟩) 0 0 0 0 0 0 (XAppeal.mk 0 0 0)).stagex)), .fl (.int .i64 ((XCase.mk (⟨#[]⟩) (⟨#[]⟩) (⟨#[]⟩) 0 0 0 0 0 0 (XAppeal.mk 0 0 0)).owedx)), .fl (.int .i64 ((XCase.mk (⟨#[]⟩) (⟨#[]⟩) (⟨#[]⟩) 0 0 0 0 0 0 (XAppeal.mk 0 0 0)).paidx)), .fl (.int .i64 ((XCase.mk (⟨#[]⟩) (⟨#[]⟩) (⟨#[]⟩) 0 0 0 0 0 0 (XAppeal.mk 0 0 0)).pausedx)), .fl (.int .i64 (((XCase.mk (⟨#[]⟩) (⟨#[]⟩) (⟨#[]⟩) 0 0 0 0 0 0 (XAppeal.mk 0 0 0)).appealx).statex)), .fl (.int .i64 (((XCase.mk (⟨#[]⟩) (⟨#[]⟩) (⟨#[]⟩) 0 0 0 0 0 0 (XAppeal.mk 0 0 0)).appealx).groundx)), .fl (.int .i64 (((XCase.mk (⟨#[]⟩) (⟨#[]⟩) (⟨#[]⟩) 0 0 0 0 0 0 (XAppeal.mk 0 0 0)).appealx).dayx))]) (ys := [.fl (.string ((XCase.mk (⟨#[]⟩) (⟨#[]⟩) (⟨#[]⟩) 0 0 0 0 0 0 (XAppeal.mk 0 0 0)).idx)), .fl (.string ((XCase.mk (⟨#[]⟩) (⟨#[]⟩) (⟨#[]⟩) 0 0 0 0 0 0 (XAppeal.mk 0 0 0)).platex)), .fl (.string ((XCase.mk (⟨#[]⟩) (⟨#[]⟩) (⟨#[]⟩) 0 0 0 0 0 0 (XAppeal.mk 0 0 0)).keyx)), .fl (.int .i64 ((XCase.mk (⟨#[]⟩) (⟨#[]⟩) (⟨#[]⟩) 0 0 0 0 0 0 (XAppeal.mk 0 0 0)).begunx)), .fl (.int .i64 ((XCase.mk (⟨#[]⟩) (⟨#[]⟩) (⟨#[]⟩) 0 0 0 0 0 0 (XAppeal.mk 0 0 0)).sincex)), .fl (.int .i64 ((XCase.mk (⟨#[]⟩) (⟨#[]⟩) (⟨#[]⟩) 0 0 0 0 0 0 (XAppeal.mk 0 0 0)).stagex)), .fl (.int .i64 ((XCase.mk (⟨#[]⟩) (⟨#[]⟩) (⟨#[]⟩) 0 0 0 0 0 0 (XAppeal.mk 0 0 0)).owedx)), .fl (.int .i64 ((XCase.mk (⟨#[]⟩) (⟨#[]⟩) (⟨#[]⟩) 0 0 0 0 0 0 (XAppeal.mk 0 0 0)).paidx)), .fl (.int .i64 ((XCase.mk (⟨#[]⟩) (⟨#[]⟩) (⟨#[]⟩) 0 0 0 0 0 0 (XAppeal.mk 0 0 0)).pausedx)), .fl (.int .i64 (((XCase.mk (⟨#[]⟩) (⟨#[]⟩) (⟨#[]⟩) 0 0 0 0 0 0 (XAppeal.mk 0 0 0)).appealx).statex)), .fl (.int .i64 (((XCase.mk (⟨#[]⟩) (⟨#[]⟩) (⟨#[]⟩) 0 0 0 0 0 0 (XAppeal.mk 0 0 0)).appealx).groundx)), .fl (.int .i64 (((XCase.mk (⟨#[]⟩) (⟨#[]⟩) (⟨#[]⟩) 0 0 0 0 0 0 (XAppeal.mk 0 0 0)).appealx).dayx))]) ⟨Cv.refl _, Cv.refl _, Cv.refl _, Cv.refl _, Cv.refl _, Cv.refl _, Cv.refl _, Cv.refl _, Cv.refl _, Cv.refl _, Cv.refl _, Cv.refl _, trivial⟩)) (.cons (.tmp rfl (.d _)) .nil)), ?_⟩
          have gg0 := bneb h4
          have hv : veh p = true := by unfold veh; simp only [gg0, h1, h3, h4, h6, h7, h8, h9, Bool.true_or, Bool.false_or, Bool.or_true, Bool.or_false, Bool.not_true, Bool.not_false, cond_true, cond_false, Bool.true_and, Bool.false_and, Bool.and_true, Bool.and_false]
          have hu : newE id p k c d = 5 := by unfold newE; simp only [hv, h1, h3, h4, h6, h7, h8, h9, Bool.true_or, Bool.false_or, Bool.or_true, Bool.or_false, Bool.not_true, Bool.not_false, cond_true, cond_false, Bool.true_and, Bool.false_and, Bool.and_true, Bool.and_false]
          rw [newC_bad hu (by decide), hu]; rfl
        · skip
          have h10 := f_not h8
          refine a_skip ?_
          show A _ _ _ _ _ _ _
          refine a_seq ?_
          refine a_rseq ?_
          refine rg_put (d := 40) (v := .d (.fl (.int .i64 c))) rfl (og rfl (op_move rfl rfl rfl)) ?_
          refine rg_put (d := 41) (v := .d (.fl (.bool ((decide (c < 1)))))) rfl (og rfl (op_bin rfl rfl rfl (b_lss _ _ _ _) rfl)) ?_
          refine rg_put (d := 42) (v := .d (.fl (.bool ((decide (c < 1)))))) rfl (og rfl (op_move rfl rfl rfl)) ?_
          rcases fot ((decide (c < 1))) with h11 | h11
          · skip
            have h12 := f_dec h11
            refine rg_put (d := 43) (v := .d (.fl (.int .i64 c))) rfl (oy rfl rfl rfl h11 (op_move rfl rfl rfl)) ?_
            refine rg_put (d := 44) (v := .d (.fl (.bool ((decide (1125899906842624 < c)))))) rfl (oy rfl rfl rfl h11 (op_bin rfl rfl rfl (b_gtr _ _ _ _) rfl)) ?_
            refine rg_put (d := 45) (v := .d (.fl (.bool ((decide (1125899906842624 < c)))))) rfl (og rfl (op_pick rfl rfl (by rw [h11]; rfl) rfl)) ?_
            refine rg_done rfl ?_
            refine a_cond rfl (fun h13 => ?_) (fun h13 => ?_)
            · skip
              have h14 := t_dec h13
              refine a_rseq ?_
              refine rg_put (d := 46) (v := .d (.ag (eXCase ((XCase.mk (⟨#[]⟩) (⟨#[]⟩) (⟨#[]⟩) 0 0 0 0 0 0 (XAppeal.mk 0 0 0)))))) rfl (og rfl (of_eff (op_build rfl Tryd.underlying35 ti35 rfl (by kernel_rfl) (by kernel_rfl) (pl := #[(0, 1), (1, 1), (2, 1), (3, 1), (4, 1), (5, 1), (6, 1), (7, 1), (8, 1), (9, 3)]) (by kernel_rfl) .nil rfl) rfl)) ?_
              refine rg_sto (nw := [(101, .bx 35 ((eXCase ((XCase.mk (⟨#[]⟩) (⟨#[]⟩) (⟨#[]⟩) 0 0 0 0 0 0 (XAppeal.mk 0 0 0))))))]) rfl (og rfl (of_eff (s_store rfl rfl ti35 rfl rfl rfl rfl rfl rfl) rfl)) ?_
              refine rg_put (d := 11) (v := .d (.fl (.int .i64 13))) rfl (og rfl (op_assign rfl rfl rfl)) ?_
              refine rg_done rfl ?_
              refine a_ret ?_
              show ∃ ds, ResL _ _ _ ds ∧ RV.of ds = _
              refine ⟨[.ag [.fl (.string ((XCase.mk (⟨#[]⟩) (⟨#[]⟩) (⟨#[]⟩) 0 0 0 0 0 0 (XAppeal.mk 0 0 0)).idx)), .fl (.string ((XCase.mk (⟨#[]⟩) (⟨#[]⟩) (⟨#[]⟩) 0 0 0 0 0 0 (XAppeal.mk 0 0 0)).platex)), .fl (.string ((XCase.mk (⟨#[]⟩) (⟨#[]⟩) (⟨#[]⟩) 0 0 0 0 0 0 (XAppeal.mk 0 0 0)).keyx)), .fl (.int .i64 ((XCase.mk (⟨#[]⟩) (⟨#[]⟩) (⟨#[]⟩) 0 0 0 0 0 0 (XAppeal.mk 0 0 0)).begunx)), .fl (.int .i64 ((XCase.mk (⟨#[]⟩) (⟨#[]⟩) (⟨#[]⟩) 0 0 0 0 0 0 (XAppeal.mk 0 0 0)).sincex)), .fl (.int .i64 ((XCase.mk (⟨#[]⟩) (⟨#[]⟩) (⟨#[]⟩) 0 0 0 0 0 0 (XAppeal.mk 0 0 0)).stagex)), .fl (.int .i64 ((XCase.mk (⟨#[]⟩) (⟨#[]⟩) (⟨#[]⟩) 0 0 0 0 0 0 (XAppeal.mk 0 0 0)).owedx)), .fl (.int .i64 ((XCase.mk (⟨#[]⟩) (⟨#[]⟩) (⟨#[]⟩) 0 0 0 0 0 0 (XAppeal.mk 0 0 0)).paidx)), .fl (.int .i64 ((XCase.mk (⟨#[]⟩) (⟨#[]⟩) (⟨#[]⟩) 0 0 0 0 0 0 (XAppeal.mk 0 0 0)).pausedx)), .fl (.int .i64 (((XCase.mk (⟨#[]⟩) (⟨#[]⟩) (⟨#[]⟩) 0 0 0 0 0 0 (XAppeal.mk 0 0 0)).appealx).statex)), .fl (.int .i64 (((XCase.mk (⟨#[]⟩) (⟨#[]⟩) (⟨#[]⟩) 0 0 0 0 0 0 (XAppeal.mk 0 0 0)).appealx).groundx)), .fl (.int .i64 (((XCase.mk (⟨#[]⟩) (⟨#[]⟩) (⟨#[]⟩) 0 0 0 0 0 0 (XAppeal.mk 0 0 0)).appealx).dayx))], .fl (.int .i64 13)], (.cons (.cellT rfl rfl Tryd.underlying35 rfl ti35 rfl (Cv.ag (xs := [.fl (.string ((XCase.mk (⟨#[]⟩) (⟨#[]⟩) (⟨#[]⟩) 0 0 0 0 0 0 (XAppeal.mk 0 0 0)).idx)), .fl (.string ((XCase.mk (⟨#[]⟩) (⟨#[]⟩) (⟨#[]⟩) 0 0 0 0 0 0 (XAppeal.mk 0 0 0)).platex)), .fl (.string ((XCase.mk (⟨#[]⟩) (⟨#[]⟩) (⟨#[]⟩) 0 0 0 0 0 0 (XAppeal.mk 0 0 0)).keyx)), .fl (.int .i64 ((XCase.mk (⟨#[]⟩) (⟨#[]⟩) (⟨#[]⟩) 0 0 0 0 0 0 (XAppeal.mk 0 0 0)).begunx)), .fl (.int .i64 ((XCase.mk (⟨#[]⟩) (⟨#[]⟩) (⟨#[]⟩) 0 0 0 0 0 0 (XAppeal.mk 0 0 0)).sincex)), .fl (.int .i64 ((XCase.mk (⟨#[]⟩) (⟨#[]⟩) (⟨#[]⟩) 0 0 0 0 0 0 (XAppeal.mk 0 0 0)).stagex)), .fl (.int .i64 ((XCase.mk (⟨#[]⟩) (⟨#[]⟩) (⟨#[]⟩) 0 0 0 0 0 0 (XAppeal.mk 0 0 0)).owedx)), .fl (.int .i64 ((XCase.mk (⟨#[]⟩) (⟨#[]⟩) (⟨#[]⟩) 0 0 0 0 0 0 (XAppeal.mk 0 0 0)).paidx)), .fl (.int .i64 ((XCase.mk (⟨#[]⟩) (⟨#[]⟩) (⟨#[]⟩) 0 0 0 0 0 0 (XAppeal.mk 0 0 0)).pausedx)), .fl (.int .i64 (((XCase.mk (⟨#[]⟩) (⟨#[]⟩) (⟨#[]⟩) 0 0 0 0 0 0 (XAppeal.mk 0 0 0)).appealx).statex)), .fl (.int .i64 (((XCase.mk (⟨#[]⟩) (⟨#[]⟩) (⟨#[]⟩) 0 0 0 0 0 0 (XAppeal.mk 0 0 0)).appealx).groundx)), .fl (.int .i64 (((XCase.mk (⟨#[]⟩) (⟨#[]⟩) (⟨#[]⟩) 0 0 0 0 0 0 (XAppeal.mk 0 0 0)).appealx).dayx))]) (ys := [.fl (.string ((XCase.mk (⟨#[]⟩) (⟨#[]⟩) (⟨#[]⟩) 0 0 0 0 0 0 (XAppeal.mk 0 0 0)).idx)), .fl (.string ((XCase.mk (⟨#[]⟩) (⟨#[]⟩) (⟨#[]⟩) 0 0 0 0 0 0 (XAppeal.mk 0 0 0)).platex)), .fl (.string ((XCase.mk (⟨#[]⟩) (⟨#[]⟩) (⟨#[]⟩) 0 0 0 0 0 0 (XAppeal.mk 0 0 0)).keyx)), .fl (.int .i64 ((XCase.mk (⟨#[]⟩) (⟨#[]⟩) (⟨#[]⟩) 0 0 0 0 0 0 (XAppeal.mk 0 0 0)).begunx)), .fl (.int .i64 ((XCase.mk (⟨#[]⟩) (⟨#[]⟩) (⟨#[]⟩) 0 0 0 0 0 0 (XAppeal.mk 0 0 0)).sincex)), .fl (.int .i64 ((XCase.mk (⟨#[]⟩) (⟨#[]⟩) (⟨#[]⟩) 0 0 0 0 0 0 (XAppeal.mk 0 0 0)).stagex)), .fl (.int .i64 ((XCase.mk (⟨#[]⟩) (⟨#[]⟩) (⟨#[]⟩) 0 0 0 0 0 0 (XAppeal.mk 0 0 0)).owedx)), .fl (.int .i64 ((XCase.mk (⟨#[]⟩) (⟨#[]⟩) (⟨#[]⟩) 0 0 0 0 0 0 (XAppeal.mk 0 0 0)).paidx)), .fl (.int .i64 ((XCase.mk (⟨#[]⟩) (⟨#[]⟩) (⟨#[]⟩) 0 0 0 0 0 0 (XAppeal.mk 0 0 0)).pausedx)), .fl (.int .i64 (((XCase.mk (⟨#[]⟩) (⟨#[]⟩) (⟨#[]⟩) 0 0 0 0 0 0 (XAppeal.mk 0 0 0)).appealx).statex)), .fl (.int .i64 (((XCase.mk (⟨#[]⟩) (⟨#[]⟩) (⟨#[]⟩) 0 0 0 0 0 0 (XAppeal.mk 0 0 0)).appealx).groundx)), .fl (.int .i64 (((XCase.mk (⟨#[]⟩) (⟨#[]⟩) (⟨#[]⟩) 0 0 0 0 0 0 (XAppeal.mk 0 0 0)).appealx).dayx))]) ⟨Cv.refl _, Cv.refl _, Cv.refl _, Cv.refl _, Cv.refl _, Cv.refl _, Cv.refl _, Cv.refl _, Cv.refl _, Cv.refl _, Cv.refl _, Cv.refl _, trivial⟩)) (.cons (.tmp rfl (.d _)) .nil)), ?_⟩
              have gg0 := bneb h4
              have hv : veh p = true := by unfold veh; simp only [gg0, h1, h3, h4, h6, h7, h8, h10, h11, h13, Bool.true_or, Bool.false_or, Bool.or_true, Bool.or_false, Bool.not_true, Bool.not_false, cond_true, cond_false, Bool.true_and, Bool.false_and, Bool.and_true, Bool.and_false]
              have hu : newE id p k c d = 13 := by unfold newE; simp only [hv, h1, h3, h4, h6, h7, h8, h10, h11, h13, Bool.true_or, Bool.false_or, Bool.or_true, Bool.or_false, Bool.not_true, Bool.not_false, cond_true, cond_false, Bool.true_and, Bool.false_and, Bool.and_true, Bool.and_false]
              rw [newC_bad hu (by decide), hu]; rfl
            · skip
              have h15 := f_dec h13
              refine a_skip ?_
              show A _ _ _ _ _ _ _
              refine a_seq ?_
              refine a_rseq ?_
              refine rg_put (d := 47) (v := .d (.fl (.int .i64 d))) rfl (og rfl (op_move rfl rfl rfl)) ?_
              refine rg_put (d := 48) (v := .d (.fl (.bool (isD d)))) rfl (og rfl (op_call rfl Tryd.func33 nm33 rfl (.cons rfl (.d _) .nil) (isDC33 d) rfl)) ?_
              refine rg_put (d := 49) (v := .d (.fl (.bool ((!(isD d)))))) rfl (og rfl (op_un rfl rfl (u_not _) rfl)) ?_
              refine rg_done rfl ?_
              refine a_cond rfl (fun h16 => ?_) (fun h16 => ?_)
              · skip
                have h17 := t_not h16
                refine a_rseq ?_
                refine rg_put (d := 50) (v := .d (.ag (eXCase ((XCase.mk (⟨#[]⟩) (⟨#[]⟩) (⟨#[]⟩) 0 0 0 0 0 0 (XAppeal.mk 0 0 0)))))) rfl (og rfl (of_eff (op_build rfl Tryd.underlying35 ti35 rfl (by kernel_rfl) (by kernel_rfl) (pl := #[(0, 1), (1, 1), (2, 1), (3, 1), (4, 1), (5, 1), (6, 1), (7, 1), (8, 1), (9, 3)]) (by kernel_rfl) .nil rfl) rfl)) ?_
                refine rg_sto (nw := [(101, .bx 35 ((eXCase ((XCase.mk (⟨#[]⟩) (⟨#[]⟩) (⟨#[]⟩) 0 0 0 0 0 0 (XAppeal.mk 0 0 0))))))]) rfl (og rfl (of_eff (s_store rfl rfl ti35 rfl rfl rfl rfl rfl rfl) rfl)) ?_
                refine rg_put (d := 11) (v := .d (.fl (.int .i64 12))) rfl (og rfl (op_assign rfl rfl rfl)) ?_
                refine rg_done rfl ?_
                refine a_ret ?_
                show ∃ ds, ResL _ _ _ ds ∧ RV.of ds = _
                refine ⟨[.ag [.fl (.string ((XCase.mk (⟨#[]⟩) (⟨#[]⟩) (⟨#[]⟩) 0 0 0 0 0 0 (XAppeal.mk 0 0 0)).idx)), .fl (.string ((XCase.mk (⟨#[]⟩) (⟨#[]⟩) (⟨#[]⟩) 0 0 0 0 0 0 (XAppeal.mk 0 0 0)).platex)), .fl (.string ((XCase.mk (⟨#[]⟩) (⟨#[]⟩) (⟨#[]⟩) 0 0 0 0 0 0 (XAppeal.mk 0 0 0)).keyx)), .fl (.int .i64 ((XCase.mk (⟨#[]⟩) (⟨#[]⟩) (⟨#[]⟩) 0 0 0 0 0 0 (XAppeal.mk 0 0 0)).begunx)), .fl (.int .i64 ((XCase.mk (⟨#[]⟩) (⟨#[]⟩) (⟨#[]⟩) 0 0 0 0 0 0 (XAppeal.mk 0 0 0)).sincex)), .fl (.int .i64 ((XCase.mk (⟨#[]⟩) (⟨#[]⟩) (⟨#[]⟩) 0 0 0 0 0 0 (XAppeal.mk 0 0 0)).stagex)), .fl (.int .i64 ((XCase.mk (⟨#[]⟩) (⟨#[]⟩) (⟨#[]⟩) 0 0 0 0 0 0 (XAppeal.mk 0 0 0)).owedx)), .fl (.int .i64 ((XCase.mk (⟨#[]⟩) (⟨#[]⟩) (⟨#[]⟩) 0 0 0 0 0 0 (XAppeal.mk 0 0 0)).paidx)), .fl (.int .i64 ((XCase.mk (⟨#[]⟩) (⟨#[]⟩) (⟨#[]⟩) 0 0 0 0 0 0 (XAppeal.mk 0 0 0)).pausedx)), .fl (.int .i64 (((XCase.mk (⟨#[]⟩) (⟨#[]⟩) (⟨#[]⟩) 0 0 0 0 0 0 (XAppeal.mk 0 0 0)).appealx).statex)), .fl (.int .i64 (((XCase.mk (⟨#[]⟩) (⟨#[]⟩) (⟨#[]⟩) 0 0 0 0 0 0 (XAppeal.mk 0 0 0)).appealx).groundx)), .fl (.int .i64 (((XCase.mk (⟨#[]⟩) (⟨#[]⟩) (⟨#[]⟩) 0 0 0 0 0 0 (XAppeal.mk 0 0 0)).appealx).dayx))], .fl (.int .i64 12)], (.cons (.cellT rfl rfl Tryd.underlying35 rfl ti35 rfl (Cv.ag (xs := [.fl (.string ((XCase.mk (⟨#[]⟩) (⟨#[]⟩) (⟨#[]⟩) 0 0 0 0 0 0 (XAppeal.mk 0 0 0)).idx)), .fl (.string ((XCase.mk (⟨#[]⟩) (⟨#[]⟩) (⟨#[]⟩) 0 0 0 0 0 0 (XAppeal.mk 0 0 0)).platex)), .fl (.string ((XCase.mk (⟨#[]⟩) (⟨#[]⟩) (⟨#[]⟩) 0 0 0 0 0 0 (XAppeal.mk 0 0 0)).keyx)), .fl (.int .i64 ((XCase.mk (⟨#[]⟩) (⟨#[]⟩) (⟨#[]⟩) 0 0 0 0 0 0 (XAppeal.mk 0 0 0)).begunx)), .fl (.int .i64 ((XCase.mk (⟨#[]⟩) (⟨#[]⟩) (⟨#[]⟩) 0 0 0 0 0 0 (XAppeal.mk 0 0 0)).sincex)), .fl (.int .i64 ((XCase.mk (⟨#[]⟩) (⟨#[]⟩) (⟨#[]⟩) 0 0 0 0 0 0 (XAppeal.mk 0 0 0)).stagex)), .fl (.int .i64 ((XCase.mk (⟨#[]⟩) (⟨#[]⟩) (⟨#[]⟩) 0 0 0 0 0 0 (XAppeal.mk 0 0 0)).owedx)), .fl (.int .i64 ((XCase.mk (⟨#[]⟩) (⟨#[]⟩) (⟨#[]⟩) 0 0 0 0 0 0 (XAppeal.mk 0 0 0)).paidx)), .fl (.int .i64 ((XCase.mk (⟨#[]⟩) (⟨#[]⟩) (⟨#[]⟩) 0 0 0 0 0 0 (XAppeal.mk 0 0 0)).pausedx)), .fl (.int .i64 (((XCase.mk (⟨#[]⟩) (⟨#[]⟩) (⟨#[]⟩) 0 0 0 0 0 0 (XAppeal.mk 0 0 0)).appealx).statex)), .fl (.int .i64 (((XCase.mk (⟨#[]⟩) (⟨#[]⟩) (⟨#[]⟩) 0 0 0 0 0 0 (XAppeal.mk 0 0 0)).appealx).groundx)), .fl (.int .i64 (((XCase.mk (⟨#[]⟩) (⟨#[]⟩) (⟨#[]⟩) 0 0 0 0 0 0 (XAppeal.mk 0 0 0)).appealx).dayx))]) (ys := [.fl (.string ((XCase.mk (⟨#[]⟩) (⟨#[]⟩) (⟨#[]⟩) 0 0 0 0 0 0 (XAppeal.mk 0 0 0)).idx)), .fl (.string ((XCase.mk (⟨#[]⟩) (⟨#[]⟩) (⟨#[]⟩) 0 0 0 0 0 0 (XAppeal.mk 0 0 0)).platex)), .fl (.string ((XCase.mk (⟨#[]⟩) (⟨#[]⟩) (⟨#[]⟩) 0 0 0 0 0 0 (XAppeal.mk 0 0 0)).keyx)), .fl (.int .i64 ((XCase.mk (⟨#[]⟩) (⟨#[]⟩) (⟨#[]⟩) 0 0 0 0 0 0 (XAppeal.mk 0 0 0)).begunx)), .fl (.int .i64 ((XCase.mk (⟨#[]⟩) (⟨#[]⟩) (⟨#[]⟩) 0 0 0 0 0 0 (XAppeal.mk 0 0 0)).sincex)), .fl (.int .i64 ((XCase.mk (⟨#[]⟩) (⟨#[]⟩) (⟨#[]⟩) 0 0 0 0 0 0 (XAppeal.mk 0 0 0)).stagex)), .fl (.int .i64 ((XCase.mk (⟨#[]⟩) (⟨#[]⟩) (⟨#[]⟩) 0 0 0 0 0 0 (XAppeal.mk 0 0 0)).owedx)), .fl (.int .i64 ((XCase.mk (⟨#[]⟩) (⟨#[]⟩) (⟨#[]⟩) 0 0 0 0 0 0 (XAppeal.mk 0 0 0)).paidx)), .fl (.int .i64 ((XCase.mk (⟨#[]⟩) (⟨#[]⟩) (⟨#[]⟩) 0 0 0 0 0 0 (XAppeal.mk 0 0 0)).pausedx)), .fl (.int .i64 (((XCase.mk (⟨#[]⟩) (⟨#[]⟩) (⟨#[]⟩) 0 0 0 0 0 0 (XAppeal.mk 0 0 0)).appealx).statex)), .fl (.int .i64 (((XCase.mk (⟨#[]⟩) (⟨#[]⟩) (⟨#[]⟩) 0 0 0 0 0 0 (XAppeal.mk 0 0 0)).appealx).groundx)), .fl (.int .i64 (((XCase.mk (⟨#[]⟩) (⟨#[]⟩) (⟨#[]⟩) 0 0 0 0 0 0 (XAppeal.mk 0 0 0)).appealx).dayx))]) ⟨Cv.refl _, Cv.refl _, Cv.refl _, Cv.refl _, Cv.refl _, Cv.refl _, Cv.refl _, Cv.refl _, Cv.refl _, Cv.refl _, Cv.refl _, Cv.refl _, trivial⟩)) (.cons (.tmp rfl (.d _)) .nil)), ?_⟩
                have gg0 := bneb h4
                have hv : veh p = true := by unfold veh; simp only [gg0, h1, h3, h4, h6, h7, h8, h10, h11, h13, h16, h17, Bool.true_or, Bool.false_or, Bool.or_true, Bool.or_false, Bool.not_true, Bool.not_false, cond_true, cond_false, Bool.true_and, Bool.false_and, Bool.and_true, Bool.and_false]
                have hu : newE id p k c d = 12 := by unfold newE; simp only [hv, h1, h3, h4, h6, h7, h8, h10, h11, h13, h16, h17, Bool.true_or, Bool.false_or, Bool.or_true, Bool.or_false, Bool.not_true, Bool.not_false, cond_true, cond_false, Bool.true_and, Bool.false_and, Bool.and_true, Bool.and_false]
                rw [newC_bad hu (by decide), hu]; rfl
              · skip
                have h18 := f_not h16
                refine a_skip ?_
                show A _ _ _ _ _ _ _
                refine a_rseq ?_
                refine rg_put (d := 51) (v := .d (.fl (.string id))) rfl (og rfl (op_move rfl rfl rfl)) ?_
                refine rg_put (d := 52) (v := .d (.fl (.string p))) rfl (og rfl (op_move rfl rfl rfl)) ?_
                refine rg_put (d := 53) (v := .d (.fl (.string k))) rfl (og rfl (op_move rfl rfl rfl)) ?_
                refine rg_put (d := 54) (v := .d (.fl (.int .i64 d))) rfl (og rfl (op_move rfl rfl rfl)) ?_
                refine rg_put (d := 55) (v := .d (.fl (.int .i64 d))) rfl (og rfl (op_move rfl rfl rfl)) ?_
                refine rg_put (d := 56) (v := .d (.fl (.int .i64 c))) rfl (og rfl (op_move rfl rfl rfl)) ?_
                refine rg_put (d := 57) (v := .d (.ag (eXCase ((XCase.mk id p k d d 1 c 0 0 (XAppeal.mk 0 0 0)))))) rfl (og rfl (of_eff (op_build rfl Tryd.underlying35 ti35 rfl (by kernel_rfl) (by kernel_rfl) (pl := #[(0, 1), (1, 1), (2, 1), (3, 1), (4, 1), (5, 1), (6, 1), (7, 1), (8, 1), (9, 3)]) (by kernel_rfl) (.cons rfl rfl (.d _) rfl rfl rfl (.cons rfl rfl (.d _) rfl rfl rfl (.cons rfl rfl (.d _) rfl rfl rfl (.cons rfl rfl (.d _) rfl rfl rfl (.cons rfl rfl (.d _) rfl rfl rfl (.cons rfl rfl (.d _) rfl rfl rfl (.cons rfl rfl (.d _) rfl rfl rfl .nil))))))) rfl) rfl)) ?_
                refine rg_sto (nw := [(101, .bx 35 ((eXCase ((XCase.mk id p k d d 1 c 0 0 (XAppeal.mk 0 0 0))))))]) rfl (og rfl (of_eff (s_store rfl rfl ti35 rfl rfl rfl rfl rfl rfl) rfl)) ?_
                refine rg_put (d := 11) (v := .d (.fl (.int .i64 0))) rfl (og rfl (op_assign rfl rfl rfl)) ?_
                refine rg_done rfl ?_
                refine a_ret ?_
                show ∃ ds, ResL _ _ _ ds ∧ RV.of ds = _
                refine ⟨[.ag [.fl (.string ((XCase.mk id p k d d 1 c 0 0 (XAppeal.mk 0 0 0)).idx)), .fl (.string ((XCase.mk id p k d d 1 c 0 0 (XAppeal.mk 0 0 0)).platex)), .fl (.string ((XCase.mk id p k d d 1 c 0 0 (XAppeal.mk 0 0 0)).keyx)), .fl (.int .i64 ((XCase.mk id p k d d 1 c 0 0 (XAppeal.mk 0 0 0)).begunx)), .fl (.int .i64 ((XCase.mk id p k d d 1 c 0 0 (XAppeal.mk 0 0 0)).sincex)), .fl (.int .i64 ((XCase.mk id p k d d 1 c 0 0 (XAppeal.mk 0 0 0)).stagex)), .fl (.int .i64 ((XCase.mk id p k d d 1 c 0 0 (XAppeal.mk 0 0 0)).owedx)), .fl (.int .i64 ((XCase.mk id p k d d 1 c 0 0 (XAppeal.mk 0 0 0)).paidx)), .fl (.int .i64 ((XCase.mk id p k d d 1 c 0 0 (XAppeal.mk 0 0 0)).pausedx)), .fl (.int .i64 (((XCase.mk id p k d d 1 c 0 0 (XAppeal.mk 0 0 0)).appealx).statex)), .fl (.int .i64 (((XCase.mk id p k d d 1 c 0 0 (XAppeal.mk 0 0 0)).appealx).groundx)), .fl (.int .i64 (((XCase.mk id p k d d 1 c 0 0 (XAppeal.mk 0 0 0)).appealx).dayx))], .fl (.int .i64 0)], (.cons (.cellT rfl rfl Tryd.underlying35 rfl ti35 rfl (Cv.ag (xs := [.fl (.string ((XCase.mk id p k d d 1 c 0 0 (XAppeal.mk 0 0 0)).idx)), .fl (.string ((XCase.mk id p k d d 1 c 0 0 (XAppeal.mk 0 0 0)).platex)), .fl (.string ((XCase.mk id p k d d 1 c 0 0 (XAppeal.mk 0 0 0)).keyx)), .fl (.int .i64 ((XCase.mk id p k d d 1 c 0 0 (XAppeal.mk 0 0 0)).begunx)), .fl (.int .i64 ((XCase.mk id p k d d 1 c 0 0 (XAppeal.mk 0 0 0)).sincex)), .fl (.int .i64 ((XCase.mk id p k d d 1 c 0 0 (XAppeal.mk 0 0 0)).stagex)), .fl (.int .i64 ((XCase.mk id p k d d 1 c 0 0 (XAppeal.mk 0 0 0)).owedx)), .fl (.int .i64 ((XCase.mk id p k d d 1 c 0 0 (XAppeal.mk 0 0 0)).paidx)), .fl (.int .i64 ((XCase.mk id p k d d 1 c 0 0 (XAppeal.mk 0 0 0)).pausedx)), .fl (.int .i64 (((XCase.mk id p k d d 1 c 0 0 (XAppeal.mk 0 0 0)).appealx).statex)), .fl (.int .i64 (((XCase.mk id p k d d 1 c 0 0 (XAppeal.mk 0 0 0)).appealx).groundx)), .fl (.int .i64 (((XCase.mk id p k d d 1 c 0 0 (XAppeal.mk 0 0 0)).appealx).dayx))]) (ys := [.fl (.string ((XCase.mk id p k d d 1 c 0 0 (XAppeal.mk 0 0 0)).idx)), .fl (.string ((XCase.mk id p k d d 1 c 0 0 (XAppeal.mk 0 0 0)).platex)), .fl (.string ((XCase.mk id p k d d 1 c 0 0 (XAppeal.mk 0 0 0)).keyx)), .fl (.int .i64 ((XCase.mk id p k d d 1 c 0 0 (XAppeal.mk 0 0 0)).begunx)), .fl (.int .i64 ((XCase.mk id p k d d 1 c 0 0 (XAppeal.mk 0 0 0)).sincex)), .fl (.int .i64 ((XCase.mk id p k d d 1 c 0 0 (XAppeal.mk 0 0 0)).stagex)), .fl (.int .i64 ((XCase.mk id p k d d 1 c 0 0 (XAppeal.mk 0 0 0)).owedx)), .fl (.int .i64 ((XCase.mk id p k d d 1 c 0 0 (XAppeal.mk 0 0 0)).paidx)), .fl (.int .i64 ((XCase.mk id p k d d 1 c 0 0 (XAppeal.mk 0 0 0)).pausedx)), .fl (.int .i64 (((XCase.mk id p k d d 1 c 0 0 (XAppeal.mk 0 0 0)).appealx).statex)), .fl (.int .i64 (((XCase.mk id p k d d 1 c 0 0 (XAppeal.mk 0 0 0)).appealx).groundx)), .fl (.int .i64 (((XCase.mk id p k d d 1 c 0 0 (XAppeal.mk 0 0 0)).appealx).dayx))]) ⟨Cv.refl _, Cv.refl _, Cv.refl _, Cv.refl _, Cv.refl _, Cv.refl _, Cv.refl _, Cv.refl _, Cv.refl _, Cv.refl _, Cv.refl _, Cv.refl _, trivial⟩)) (.cons (.tmp rfl (.d _)) .nil)), ?_⟩
                have gg0 := bneb h4
                have hv : veh p = true := by unfold veh; simp only [gg0, h1, h3, h4, h6, h7, h8, h10, h11, h13, h16, h18, Bool.true_or, Bool.false_or, Bool.or_true, Bool.or_false, Bool.not_true, Bool.not_false, cond_true, cond_false, Bool.true_and, Bool.false_and, Bool.and_true, Bool.and_false]
                have hu : newE id p k c d = 0 := by unfold newE; simp only [hv, h1, h3, h4, h6, h7, h8, h10, h11, h13, h16, h18, Bool.true_or, Bool.false_or, Bool.or_true, Bool.or_false, Bool.not_true, Bool.not_false, cond_true, cond_false, Bool.true_and, Bool.false_and, Bool.and_true, Bool.and_false]
                rw [newC_ok hu, hu]; rfl
          · skip
            have h19 := t_dec h11
            refine rg_put (d := 43) (v := .d (.fl undef)) rfl (on rfl rfl rfl h11) ?_
            refine rg_put (d := 44) (v := .d (.fl undef)) rfl (on rfl rfl rfl h11) ?_
            refine rg_put (d := 45) (v := .d (.fl (.bool true))) rfl (og rfl (op_pick rfl rfl (by rw [h11]; rfl) rfl)) ?_
            refine rg_done rfl ?_
            refine a_condK rfl rfl ?_
            refine a_rseq ?_
            refine rg_put (d := 46) (v := .d (.ag (eXCase ((XCase.mk (⟨#[]⟩) (⟨#[]⟩) (⟨#[]⟩) 0 0 0 0 0 0 (XAppeal.mk 0 0 0)))))) rfl (og rfl (of_eff (op_build rfl Tryd.underlying35 ti35 rfl (by kernel_rfl) (by kernel_rfl) (pl := #[(0, 1), (1, 1), (2, 1), (3, 1), (4, 1), (5, 1), (6, 1), (7, 1), (8, 1), (9, 3)]) (by kernel_rfl) .nil rfl) rfl)) ?_
            refine rg_sto (nw := [(101, .bx 35 ((eXCase ((XCase.mk (⟨#[]⟩) (⟨#[]⟩) (⟨#[]⟩) 0 0 0 0 0 0 (XAppeal.mk 0 0 0))))))]) rfl (og rfl (of_eff (s_store rfl rfl ti35 rfl rfl rfl rfl rfl rfl) rfl)) ?_
            refine rg_put (d := 11) (v := .d (.fl (.int .i64 13))) rfl (og rfl (op_assign rfl rfl rfl)) ?_
            refine rg_done rfl ?_
            refine a_ret ?_
            show ∃ ds, ResL _ _ _ ds ∧ RV.of ds = _
            refine ⟨[.ag [.fl (.string ((XCase.mk (⟨#[]⟩) (⟨#[]⟩) (⟨#[]⟩) 0 0 0 0 0 0 (XAppeal.mk 0 0 0)).idx)), .fl (.string ((XCase.mk (⟨#[]⟩) (⟨#[]⟩) (⟨#[]⟩) 0 0 0 0 0 0 (XAppeal.mk 0 0 0)).platex)), .fl (.string ((XCase.mk (⟨#[]⟩) (⟨#[]⟩) (⟨#[]⟩) 0 0 0 0 0 0 (XAppeal.mk 0 0 0)).keyx)), .fl (.int .i64 ((XCase.mk (⟨#[]⟩) (⟨#[]⟩) (⟨#[]⟩) 0 0 0 0 0 0 (XAppeal.mk 0 0 0)).begunx)), .fl (.int .i64 ((XCase.mk (⟨#[]⟩) (⟨#[]⟩) (⟨#[]⟩) 0 0 0 0 0 0 (XAppeal.mk 0 0 0)).sincex)), .fl (.int .i64 ((XCase.mk (⟨#[]⟩) (⟨#[]⟩) (⟨#[]⟩) 0 0 0 0 0 0 (XAppeal.mk 0 0 0)).stagex)), .fl (.int .i64 ((XCase.mk (⟨#[]⟩) (⟨#[]⟩) (⟨#[]⟩) 0 0 0 0 0 0 (XAppeal.mk 0 0 0)).owedx)), .fl (.int .i64 ((XCase.mk (⟨#[]⟩) (⟨#[]⟩) (⟨#[]⟩) 0 0 0 0 0 0 (XAppeal.mk 0 0 0)).paidx)), .fl (.int .i64 ((XCase.mk (⟨#[]⟩) (⟨#[]⟩) (⟨#[]⟩) 0 0 0 0 0 0 (XAppeal.mk 0 0 0)).pausedx)), .fl (.int .i64 (((XCase.mk (⟨#[]⟩) (⟨#[]⟩) (⟨#[]⟩) 0 0 0 0 0 0 (XAppeal.mk 0 0 0)).appealx).statex)), .fl (.int .i64 (((XCase.mk (⟨#[]⟩) (⟨#[]⟩) (⟨#[]⟩) 0 0 0 0 0 0 (XAppeal.mk 0 0 0)).appealx).groundx)), .fl (.int .i64 (((XCase.mk (⟨#[]⟩) (⟨#[]⟩) (⟨#[]⟩) 0 0 0 0 0 0 (XAppeal.mk 0 0 0)).appealx).dayx))], .fl (.int .i64 13)], (.cons (.cellT rfl rfl Tryd.underlying35 rfl ti35 rfl (Cv.ag (xs := [.fl (.string ((XCase.mk (⟨#[]⟩) (⟨#[]⟩) (⟨#[]⟩) 0 0 0 0 0 0 (XAppeal.mk 0 0 0)).idx)), .fl (.string ((XCase.mk (⟨#[]⟩) (⟨#[]⟩) (⟨#[]⟩) 0 0 0 0 0 0 (XAppeal.mk 0 0 0)).platex)), .fl (.string ((XCase.mk (⟨#[]⟩) (⟨#[]⟩) (⟨#[]⟩) 0 0 0 0 0 0 (XAppeal.mk 0 0 0)).keyx)), .fl (.int .i64 ((XCase.mk (⟨#[]⟩) (⟨#[]⟩) (⟨#[]⟩) 0 0 0 0 0 0 (XAppeal.mk 0 0 0)).begunx)), .fl (.int .i64 ((XCase.mk (⟨#[]⟩) (⟨#[]⟩) (⟨#[]⟩) 0 0 0 0 0 0 (XAppeal.mk 0 0 0)).sincex)), .fl (.int .i64 ((XCase.mk (⟨#[]⟩) (⟨#[]⟩) (⟨#[]⟩) 0 0 0 0 0 0 (XAppeal.mk 0 0 0)).stagex)), .fl (.int .i64 ((XCase.mk (⟨#[]⟩) (⟨#[]⟩) (⟨#[]⟩) 0 0 0 0 0 0 (XAppeal.mk 0 0 0)).owedx)), .fl (.int .i64 ((XCase.mk (⟨#[]⟩) (⟨#[]⟩) (⟨#[]⟩) 0 0 0 0 0 0 (XAppeal.mk 0 0 0)).paidx)), .fl (.int .i64 ((XCase.mk (⟨#[]⟩) (⟨#[]⟩) (⟨#[]⟩) 0 0 0 0 0 0 (XAppeal.mk 0 0 0)).pausedx)), .fl (.int .i64 (((XCase.mk (⟨#[]⟩) (⟨#[]⟩) (⟨#[]⟩) 0 0 0 0 0 0 (XAppeal.mk 0 0 0)).appealx).statex)), .fl (.int .i64 (((XCase.mk (⟨#[]⟩) (⟨#[]⟩) (⟨#[]⟩) 0 0 0 0 0 0 (XAppeal.mk 0 0 0)).appealx).groundx)), .fl (.int .i64 (((XCase.mk (⟨#[]⟩) (⟨#[]⟩) (⟨#[]⟩) 0 0 0 0 0 0 (XAppeal.mk 0 0 0)).appealx).dayx))]) (ys := [.fl (.string ((XCase.mk (⟨#[]⟩) (⟨#[]⟩) (⟨#[]⟩) 0 0 0 0 0 0 (XAppeal.mk 0 0 0)).idx)), .fl (.string ((XCase.mk (⟨#[]⟩) (⟨#[]⟩) (⟨#[]⟩) 0 0 0 0 0 0 (XAppeal.mk 0 0 0)).platex)), .fl (.string ((XCase.mk (⟨#[]⟩) (⟨#[]⟩) (⟨#[]⟩) 0 0 0 0 0 0 (XAppeal.mk 0 0 0)).keyx)), .fl (.int .i64 ((XCase.mk (⟨#[]⟩) (⟨#[]⟩) (⟨#[]⟩) 0 0 0 0 0 0 (XAppeal.mk 0 0 0)).begunx)), .fl (.int .i64 ((XCase.mk (⟨#[]⟩) (⟨#[]⟩) (⟨#[]⟩) 0 0 0 0 0 0 (XAppeal.mk 0 0 0)).sincex)), .fl (.int .i64 ((XCase.mk (⟨#[]⟩) (⟨#[]⟩) (⟨#[]⟩) 0 0 0 0 0 0 (XAppeal.mk 0 0 0)).stagex)), .fl (.int .i64 ((XCase.mk (⟨#[]⟩) (⟨#[]⟩) (⟨#[]⟩) 0 0 0 0 0 0 (XAppeal.mk 0 0 0)).owedx)), .fl (.int .i64 ((XCase.mk (⟨#[]⟩) (⟨#[]⟩) (⟨#[]⟩) 0 0 0 0 0 0 (XAppeal.mk 0 0 0)).paidx)), .fl (.int .i64 ((XCase.mk (⟨#[]⟩) (⟨#[]⟩) (⟨#[]⟩) 0 0 0 0 0 0 (XAppeal.mk 0 0 0)).pausedx)), .fl (.int .i64 (((XCase.mk (⟨#[]⟩) (⟨#[]⟩) (⟨#[]⟩) 0 0 0 0 0 0 (XAppeal.mk 0 0 0)).appealx).statex)), .fl (.int .i64 (((XCase.mk (⟨#[]⟩) (⟨#[]⟩) (⟨#[]⟩) 0 0 0 0 0 0 (XAppeal.mk 0 0 0)).appealx).groundx)), .fl (.int .i64 (((XCase.mk (⟨#[]⟩) (⟨#[]⟩) (⟨#[]⟩) 0 0 0 0 0 0 (XAppeal.mk 0 0 0)).appealx).dayx))]) ⟨Cv.refl _, Cv.refl _, Cv.refl _, Cv.refl _, Cv.refl _, Cv.refl _, Cv.refl _, Cv.refl _, Cv.refl _, Cv.refl _, Cv.refl _, Cv.refl _, trivial⟩)) (.cons (.tmp rfl (.d _)) .nil)), ?_⟩
            have gg0 := bneb h4
            have hv : veh p = true := by unfold veh; simp only [gg0, h1, h3, h4, h6, h7, h8, h10, h11, Bool.true_or, Bool.false_or, Bool.or_true, Bool.or_false, Bool.not_true, Bool.not_false, cond_true, cond_false, Bool.true_and, Bool.false_and, Bool.and_true, Bool.and_false]
            have hu : newE id p k c d = 13 := by unfold newE; simp only [hv, h1, h3, h4, h6, h7, h8, h10, h11, Bool.true_or, Bool.false_or, Bool.or_true, Bool.or_false, Bool.not_true, Bool.not_false, cond_true, cond_false, Bool.true_and, Bool.false_and, Bool.and_true, Bool.and_false]
            rw [newC_bad hu (by decide), hu]; rfl
      · skip
        have h20 := t_not h6
        refine rg_put (d := 31) (v := .d (.fl (.string p))) rfl (oy rfl rfl rfl h6 (op_move rfl rfl rfl)) ?_
        refine rg_put (d := 32) (v := .d (.fl (.int .i64 (Tm.ck p)))) rfl (oy rfl rfl rfl h6 (op_call rfl Tryd.func32 nm32 rfl (.cons rfl (.d _) .nil) (tagC32 p) rfl)) ?_
        refine rg_put (d := 33) (v := .d (.fl (.bool (((Tm.ck p) != 0))))) rfl (oy rfl rfl rfl h6 (op_bin rfl rfl rfl (b_neq _ _ _ _) rfl)) ?_
        refine rg_put (d := 34) (v := .d (.fl (.bool (((Tm.ck p) != 0))))) rfl (og rfl (op_pick rfl rfl (by rw [h6]; rfl) rfl)) ?_
        refine rg_done rfl ?_
        refine a_cond rfl (fun h21 => ?_) (fun h21 => ?_)
        · skip
          have h22 := t_bne h21
          refine a_rseq ?_
          refine rg_put (d := 35) (v := .d (.ag (eXCase ((XCase.mk (⟨#[]⟩) (⟨#[]⟩) (⟨#[]⟩) 0 0 0 0 0 0 (XAppeal.mk 0 0 0)))))) rfl (og rfl (of_eff (op_build rfl Tryd.underlying35 ti35 rfl (by kernel_rfl) (by kernel_rfl) (pl := #[(0, 1), (1, 1), (2, 1), (3, 1), (4, 1), (5, 1), (6, 1), (7, 1), (8, 1), (9, 3)]) (by kernel_rfl) .nil rfl) rfl)) ?_
          refine rg_sto (nw := [(101, .bx 35 ((eXCase ((XCase.mk (⟨#[]⟩) (⟨#[]⟩) (⟨#[]⟩) 0 0 0 0 0 0 (XAppeal.mk 0 0 0))))))]) rfl (og rfl (of_eff (s_store rfl rfl ti35 rfl rfl rfl rfl rfl rfl) rfl)) ?_
          refine rg_put (d := 11) (v := .d (.fl (.int .i64 19))) rfl (og rfl (op_assign rfl rfl rfl)) ?_
          refine rg_done rfl ?_
          refine a_ret ?_
          show ∃ ds, ResL _ _ _ ds ∧ RV.of ds = _
          refine ⟨[.ag [.fl (.string ((XCase.mk (⟨#[]⟩) (⟨#[]⟩) (⟨#[]⟩) 0 0 0 0 0 0 (XAppeal.mk 0 0 0)).idx)), .fl (.string ((XCase.mk (⟨#[]⟩) (⟨#[]⟩) (⟨#[]⟩) 0 0 0 0 0 0 (XAppeal.mk 0 0 0)).platex)), .fl (.string ((XCase.mk (⟨#[]⟩) (⟨#[]⟩) (⟨#[]⟩) 0 0 0 0 0 0 (XAppeal.mk 0 0 0)).keyx)), .fl (.int .i64 ((XCase.mk (⟨#[]⟩) (⟨#[]⟩) (⟨#[]⟩) 0 0 0 0 0 0 (XAppeal.mk 0 0 0)).begunx)), .fl (.int .i64 ((XCase.mk (⟨#[]⟩) (⟨#[]⟩) (⟨#[]⟩) 0 0 0 0 0 0 (XAppeal.mk 0 0 0)).sincex)), .fl (.int .i64 ((XCase.mk (⟨#[]⟩) (⟨#[]⟩) (⟨#[]⟩) 0 0 0 0 0 0 (XAppeal.mk 0 0 0)).stagex)), .fl (.int .i64 ((XCase.mk (⟨#[]⟩) (⟨#[]⟩) (⟨#[]⟩) 0 0 0 0 0 0 (XAppeal.mk 0 0 0)).owedx)), .fl (.int .i64 ((XCase.mk (⟨#[]⟩) (⟨#[]⟩) (⟨#[]⟩) 0 0 0 0 0 0 (XAppeal.mk 0 0 0)).paidx)), .fl (.int .i64 ((XCase.mk (⟨#[]⟩) (⟨#[]⟩) (⟨#[]⟩) 0 0 0 0 0 0 (XAppeal.mk 0 0 0)).pausedx)), .fl (.int .i64 (((XCase.mk (⟨#[]⟩) (⟨#[]⟩) (⟨#[]⟩) 0 0 0 0 0 0 (XAppeal.mk 0 0 0)).appealx).statex)), .fl (.int .i64 (((XCase.mk (⟨#[]⟩) (⟨#[]⟩) (⟨#[]⟩) 0 0 0 0 0 0 (XAppeal.mk 0 0 0)).appealx).groundx)), .fl (.int .i64 (((XCase.mk (⟨#[]⟩) (⟨#[]⟩) (⟨#[]⟩) 0 0 0 0 0 0 (XAppeal.mk 0 0 0)).appealx).dayx))], .fl (.int .i64 19)], (.cons (.cellT rfl rfl Tryd.underlying35 rfl ti35 rfl (Cv.ag (xs := [.fl (.string ((XCase.mk (⟨#[]⟩) (⟨#[]⟩) (⟨#[]⟩) 0 0 0 0 0 0 (XAppeal.mk 0 0 0)).idx)), .fl (.string ((XCase.mk (⟨#[]⟩) (⟨#[]⟩) (⟨#[]⟩) 0 0 0 0 0 0 (XAppeal.mk 0 0 0)).platex)), .fl (.string ((XCase.mk (⟨#[]⟩) (⟨#[]⟩) (⟨#[]⟩) 0 0 0 0 0 0 (XAppeal.mk 0 0 0)).keyx)), .fl (.int .i64 ((XCase.mk (⟨#[]⟩) (⟨#[]⟩) (⟨#[]⟩) 0 0 0 0 0 0 (XAppeal.mk 0 0 0)).begunx)), .fl (.int .i64 ((XCase.mk (⟨#[]⟩) (⟨#[]⟩) (⟨#[]⟩) 0 0 0 0 0 0 (XAppeal.mk 0 0 0)).sincex)), .fl (.int .i64 ((XCase.mk (⟨#[]⟩) (⟨#[]⟩) (⟨#[]⟩) 0 0 0 0 0 0 (XAppeal.mk 0 0 0)).stagex)), .fl (.int .i64 ((XCase.mk (⟨#[]⟩) (⟨#[]⟩) (⟨#[]⟩) 0 0 0 0 0 0 (XAppeal.mk 0 0 0)).owedx)), .fl (.int .i64 ((XCase.mk (⟨#[]⟩) (⟨#[]⟩) (⟨#[]⟩) 0 0 0 0 0 0 (XAppeal.mk 0 0 0)).paidx)), .fl (.int .i64 ((XCase.mk (⟨#[]⟩) (⟨#[]⟩) (⟨#[]⟩) 0 0 0 0 0 0 (XAppeal.mk 0 0 0)).pausedx)), .fl (.int .i64 (((XCase.mk (⟨#[]⟩) (⟨#[]⟩) (⟨#[]⟩) 0 0 0 0 0 0 (XAppeal.mk 0 0 0)).appealx).statex)), .fl (.int .i64 (((XCase.mk (⟨#[]⟩) (⟨#[]⟩) (⟨#[]⟩) 0 0 0 0 0 0 (XAppeal.mk 0 0 0)).appealx).groundx)), .fl (.int .i64 (((XCase.mk (⟨#[]⟩) (⟨#[]⟩) (⟨#[]⟩) 0 0 0 0 0 0 (XAppeal.mk 0 0 0)).appealx).dayx))]) (ys := [.fl (.string ((XCase.mk (⟨#[]⟩) (⟨#[]⟩) (⟨#[]⟩) 0 0 0 0 0 0 (XAppeal.mk 0 0 0)).idx)), .fl (.string ((XCase.mk (⟨#[]⟩) (⟨#[]⟩) (⟨#[]⟩) 0 0 0 0 0 0 (XAppeal.mk 0 0 0)).platex)), .fl (.string ((XCase.mk (⟨#[]⟩) (⟨#[]⟩) (⟨#[]⟩) 0 0 0 0 0 0 (XAppeal.mk 0 0 0)).keyx)), .fl (.int .i64 ((XCase.mk (⟨#[]⟩) (⟨#[]⟩) (⟨#[]⟩) 0 0 0 0 0 0 (XAppeal.mk 0 0 0)).begunx)), .fl (.int .i64 ((XCase.mk (⟨#[]⟩) (⟨#[]⟩) (⟨#[]⟩) 0 0 0 0 0 0 (XAppeal.mk 0 0 0)).sincex)), .fl (.int .i64 ((XCase.mk (⟨#[]⟩) (⟨#[]⟩) (⟨#[]⟩) 0 0 0 0 0 0 (XAppeal.mk 0 0 0)).stagex)), .fl (.int .i64 ((XCase.mk (⟨#[]⟩) (⟨#[]⟩) (⟨#[]⟩) 0 0 0 0 0 0 (XAppeal.mk 0 0 0)).owedx)), .fl (.int .i64 ((XCase.mk (⟨#[]⟩) (⟨#[]⟩) (⟨#[]⟩) 0 0 0 0 0 0 (XAppeal.mk 0 0 0)).paidx)), .fl (.int .i64 ((XCase.mk (⟨#[]⟩) (⟨#[]⟩) (⟨#[]⟩) 0 0 0 0 0 0 (XAppeal.mk 0 0 0)).pausedx)), .fl (.int .i64 (((XCase.mk (⟨#[]⟩) (⟨#[]⟩) (⟨#[]⟩) 0 0 0 0 0 0 (XAppeal.mk 0 0 0)).appealx).statex)), .fl (.int .i64 (((XCase.mk (⟨#[]⟩) (⟨#[]⟩) (⟨#[]⟩) 0 0 0 0 0 0 (XAppeal.mk 0 0 0)).appealx).groundx)), .fl (.int .i64 (((XCase.mk (⟨#[]⟩) (⟨#[]⟩) (⟨#[]⟩) 0 0 0 0 0 0 (XAppeal.mk 0 0 0)).appealx).dayx))]) ⟨Cv.refl _, Cv.refl _, Cv.refl _, Cv.refl _, Cv.refl _, Cv.refl _, Cv.refl _, Cv.refl _, Cv.refl _, Cv.refl _, Cv.refl _, Cv.refl _, trivial⟩)) (.cons (.tmp rfl (.d _)) .nil)), ?_⟩
          have gg0 := bneb h4
          have gg1 := bneb h21
          have hv : veh p = false := by unfold veh; simp only [gg0, gg1, h1, h3, h4, h6, h20, h21, Bool.true_or, Bool.false_or, Bool.or_true, Bool.or_false, Bool.not_true, Bool.not_false, cond_true, cond_false, Bool.true_and, Bool.false_and, Bool.and_true, Bool.and_false]
          have hu : newE id p k c d = 19 := by unfold newE; simp only [hv, h1, h3, h4, h6, h20, h21, Bool.true_or, Bool.false_or, Bool.or_true, Bool.or_false, Bool.not_true, Bool.not_false, cond_true, cond_false, Bool.true_and, Bool.false_and, Bool.and_true, Bool.and_false]
          rw [newC_bad hu (by decide), hu]; rfl
        · skip
          have h23 := f_bne h21
          refine a_skip ?_
          show A _ _ _ _ _ _ _
          refine a_seq ?_
          refine a_rseq ?_
          refine rg_put (d := 36) (v := .d (.fl (.string k))) rfl (og rfl (op_move rfl rfl rfl)) ?_
          refine rg_put (d := 37) (v := .d (.fl (.bool (isF k)))) rfl (og rfl (op_call rfl Tryd.func31 nm31 rfl (.cons rfl (.d _) .nil) (isFC31 k) rfl)) ?_
          refine rg_put (d := 38) (v := .d (.fl (.bool ((!(isF k)))))) rfl (og rfl (op_un rfl rfl (u_not _) rfl)) ?_
          refine rg_done rfl ?_
          refine a_cond rfl (fun h24 => ?_) (fun h24 => ?_)
          · skip
            have h25 := t_not h24
            refine a_rseq ?_
            refine rg_put (d := 39) (v := .d (.ag (eXCase ((XCase.mk (⟨#[]⟩) (⟨#[]⟩) (⟨#[]⟩) 0 0 0 0 0 0 (XAppeal.mk 0 0 0)))))) rfl (og rfl (of_eff (op_build rfl Tryd.underlying35 ti35 rfl (by kernel_rfl) (by kernel_rfl) (pl := #[(0, 1), (1, 1), (2, 1), (3, 1), (4, 1), (5, 1), (6, 1), (7, 1), (8, 1), (9, 3)]) (by kernel_rfl) .nil rfl) rfl)) ?_
            refine rg_sto (nw := [(101, .bx 35 ((eXCase ((XCase.mk (⟨#[]⟩) (⟨#[]⟩) (⟨#[]⟩) 0 0 0 0 0 0 (XAppeal.mk 0 0 0))))))]) rfl (og rfl (of_eff (s_store rfl rfl ti35 rfl rfl rfl rfl rfl rfl) rfl)) ?_
            refine rg_put (d := 11) (v := .d (.fl (.int .i64 5))) rfl (og rfl (op_assign rfl rfl rfl)) ?_
            refine rg_done rfl ?_
            refine a_ret ?_
            show ∃ ds, ResL _ _ _ ds ∧ RV.of ds = _
            refine ⟨[.ag [.fl (.string ((XCase.mk (⟨#[]⟩) (⟨#[]⟩) (⟨#[]⟩) 0 0 0 0 0 0 (XAppeal.mk 0 0 0)).idx)), .fl (.string ((XCase.mk (⟨#[]⟩) (⟨#[]⟩) (⟨#[]⟩) 0 0 0 0 0 0 (XAppeal.mk 0 0 0)).platex)), .fl (.string ((XCase.mk (⟨#[]⟩) (⟨#[]⟩) (⟨#[]⟩) 0 0 0 0 0 0 (XAppeal.mk 0 0 0)).keyx)), .fl (.int .i64 ((XCase.mk (⟨#[]⟩) (⟨#[]⟩) (⟨#[]⟩) 0 0 0 0 0 0 (XAppeal.mk 0 0 0)).begunx)), .fl (.int .i64 ((XCase.mk (⟨#[]⟩) (⟨#[]⟩) (⟨#[]⟩) 0 0 0 0 0 0 (XAppeal.mk 0 0 0)).sincex)), .fl (.int .i64 ((XCase.mk (⟨#[]⟩) (⟨#[]⟩) (⟨#[]⟩) 0 0 0 0 0 0 (XAppeal.mk 0 0 0)).stagex)), .fl (.int .i64 ((XCase.mk (⟨#[]⟩) (⟨#[]⟩) (⟨#[]⟩) 0 0 0 0 0 0 (XAppeal.mk 0 0 0)).owedx)), .fl (.int .i64 ((XCase.mk (⟨#[]⟩) (⟨#[]⟩) (⟨#[]⟩) 0 0 0 0 0 0 (XAppeal.mk 0 0 0)).paidx)), .fl (.int .i64 ((XCase.mk (⟨#[]⟩) (⟨#[]⟩) (⟨#[]⟩) 0 0 0 0 0 0 (XAppeal.mk 0 0 0)).pausedx)), .fl (.int .i64 (((XCase.mk (⟨#[]⟩) (⟨#[]⟩) (⟨#[]⟩) 0 0 0 0 0 0 (XAppeal.mk 0 0 0)).appealx).statex)), .fl (.int .i64 (((XCase.mk (⟨#[]⟩) (⟨#[]⟩) (⟨#[]⟩) 0 0 0 0 0 0 (XAppeal.mk 0 0 0)).appealx).groundx)), .fl (.int .i64 (((XCase.mk (⟨#[]⟩) (⟨#[]⟩) (⟨#[]⟩) 0 0 0 0 0 0 (XAppeal.mk 0 0 0)).appealx).dayx))], .fl (.int .i64 5)], (.cons (.cellT rfl rfl Tryd.underlying35 rfl ti35 rfl (Cv.ag (xs := [.fl (.string ((XCase.mk (⟨#[]⟩) (⟨#[]⟩) (⟨#[]⟩) 0 0 0 0 0 0 (XAppeal.mk 0 0 0)).idx)), .fl (.string ((XCase.mk (⟨#[]⟩) (⟨#[]⟩) (⟨#[]⟩) 0 0 0 0 0 0 (XAppeal.mk 0 0 0)).platex)), .fl (.string ((XCase.mk (⟨#[]⟩) (⟨#[]⟩) (⟨#[]⟩) 0 0 0 0 0 0 (XAppeal.mk 0 0 0)).keyx)), .fl (.int .i64 ((XCase.mk (⟨#[]⟩) (⟨#[]⟩) (⟨#[]⟩) 0 0 0 0 0 0 (XAppeal.mk 0 0 0)).begunx)), .fl (.int .i64 ((XCase.mk (⟨#[]⟩) (⟨#[]⟩) (⟨#[]⟩) 0 0 0 0 0 0 (XAppeal.mk 0 0 0)).sincex)), .fl (.int .i64 ((XCase.mk (⟨#[]⟩) (⟨#[]⟩) (⟨#[]⟩) 0 0 0 0 0 0 (XAppeal.mk 0 0 0)).stagex)), .fl (.int .i64 ((XCase.mk (⟨#[]⟩) (⟨#[]⟩) (⟨#[]⟩) 0 0 0 0 0 0 (XAppeal.mk 0 0 0)).owedx)), .fl (.int .i64 ((XCase.mk (⟨#[]⟩) (⟨#[]⟩) (⟨#[]⟩) 0 0 0 0 0 0 (XAppeal.mk 0 0 0)).paidx)), .fl (.int .i64 ((XCase.mk (⟨#[]⟩) (⟨#[]⟩) (⟨#[]⟩) 0 0 0 0 0 0 (XAppeal.mk 0 0 0)).pausedx)), .fl (.int .i64 (((XCase.mk (⟨#[]⟩) (⟨#[]⟩) (⟨#[]⟩) 0 0 0 0 0 0 (XAppeal.mk 0 0 0)).appealx).statex)), .fl (.int .i64 (((XCase.mk (⟨#[]⟩) (⟨#[]⟩) (⟨#[]⟩) 0 0 0 0 0 0 (XAppeal.mk 0 0 0)).appealx).groundx)), .fl (.int .i64 (((XCase.mk (⟨#[]⟩) (⟨#[]⟩) (⟨#[]⟩) 0 0 0 0 0 0 (XAppeal.mk 0 0 0)).appealx).dayx))]) (ys := [.fl (.string ((XCase.mk (⟨#[]⟩) (⟨#[]⟩) (⟨#[]⟩) 0 0 0 0 0 0 (XAppeal.mk 0 0 0)).idx)), .fl (.string ((XCase.mk (⟨#[]⟩) (⟨#[]⟩) (⟨#[]⟩) 0 0 0 0 0 0 (XAppeal.mk 0 0 0)).platex)), .fl (.string ((XCase.mk (⟨#[]⟩) (⟨#[]⟩) (⟨#[]⟩) 0 0 0 0 0 0 (XAppeal.mk 0 0 0)).keyx)), .fl (.int .i64 ((XCase.mk (⟨#[]⟩) (⟨#[]⟩) (⟨#[]⟩) 0 0 0 0 0 0 (XAppeal.mk 0 0 0)).begunx)), .fl (.int .i64 ((XCase.mk (⟨#[]⟩) (⟨#[]⟩) (⟨#[]⟩) 0 0 0 0 0 0 (XAppeal.mk 0 0 0)).sincex)), .fl (.int .i64 ((XCase.mk (⟨#[]⟩) (⟨#[]⟩) (⟨#[]⟩) 0 0 0 0 0 0 (XAppeal.mk 0 0 0)).stagex)), .fl (.int .i64 ((XCase.mk (⟨#[]⟩) (⟨#[]⟩) (⟨#[]⟩) 0 0 0 0 0 0 (XAppeal.mk 0 0 0)).owedx)), .fl (.int .i64 ((XCase.mk (⟨#[]⟩) (⟨#[]⟩) (⟨#[]⟩) 0 0 0 0 0 0 (XAppeal.mk 0 0 0)).paidx)), .fl (.int .i64 ((XCase.mk (⟨#[]⟩) (⟨#[]⟩) (⟨#[]⟩) 0 0 0 0 0 0 (XAppeal.mk 0 0 0)).pausedx)), .fl (.int .i64 (((XCase.mk (⟨#[]⟩) (⟨#[]⟩) (⟨#[]⟩) 0 0 0 0 0 0 (XAppeal.mk 0 0 0)).appealx).statex)), .fl (.int .i64 (((XCase.mk (⟨#[]⟩) (⟨#[]⟩) (⟨#[]⟩) 0 0 0 0 0 0 (XAppeal.mk 0 0 0)).appealx).groundx)), .fl (.int .i64 (((XCase.mk (⟨#[]⟩) (⟨#[]⟩) (⟨#[]⟩) 0 0 0 0 0 0 (XAppeal.mk 0 0 0)).appealx).dayx))]) ⟨Cv.refl _, Cv.refl _, Cv.refl _, Cv.refl _, Cv.refl _, Cv.refl _, Cv.refl _, Cv.refl _, Cv.refl _, Cv.refl _, Cv.refl _, Cv.refl _, trivial⟩)) (.cons (.tmp rfl (.d _)) .nil)), ?_⟩
            have gg0 := bneb h4
            have gg1 := bneb h21
            have hv : veh p = true := by unfold veh; simp only [gg0, gg1, h1, h3, h4, h6, h20, h21, h24, h25, Bool.true_or, Bool.false_or, Bool.or_true, Bool.or_false, Bool.not_true, Bool.not_false, cond_true, cond_false, Bool.true_and, Bool.false_and, Bool.and_true, Bool.and_false]
            have hu : newE id p k c d = 5 := by unfold newE; simp only [hv, h1, h3, h4, h6, h20, h21, h24, h25, Bool.true_or, Bool.false_or, Bool.or_true, Bool.or_false, Bool.not_true, Bool.not_false, cond_true, cond_false, Bool.true_and, Bool.false_and, Bool.and_true, Bool.and_false]
            rw [newC_bad hu (by decide), hu]; rfl
          · skip
            have h26 := f_not h24
            refine a_skip ?_
            show A _ _ _ _ _ _ _
            refine a_seq ?_
            refine a_rseq ?_
            refine rg_put (d := 40) (v := .d (.fl (.int .i64 c))) rfl (og rfl (op_move rfl rfl rfl)) ?_
            refine rg_put (d := 41) (v := .d (.fl (.bool ((decide (c < 1)))))) rfl (og rfl (op_bin rfl rfl rfl (b_lss _ _ _ _) rfl)) ?_
            refine rg_put (d := 42) (v := .d (.fl (.bool ((decide (c < 1)))))) rfl (og rfl (op_move rfl rfl rfl)) ?_
            rcases fot ((decide (c < 1))) with h27 | h27
            · skip
              have h28 := f_dec h27
              refine rg_put (d := 43) (v := .d (.fl (.int .i64 c))) rfl (oy rfl rfl rfl h27 (op_move rfl rfl rfl)) ?_
              refine rg_put (d := 44) (v := .d (.fl (.bool ((decide (1125899906842624 < c)))))) rfl (oy rfl rfl rfl h27 (op_bin rfl rfl rfl (b_gtr _ _ _ _) rfl)) ?_
              refine rg_put (d := 45) (v := .d (.fl (.bool ((decide (1125899906842624 < c)))))) rfl (og rfl (op_pick rfl rfl (by rw [h27]; rfl) rfl)) ?_
              refine rg_done rfl ?_
              refine a_cond rfl (fun h29 => ?_) (fun h29 => ?_)
              · skip
                have h30 := t_dec h29
                refine a_rseq ?_
                refine rg_put (d := 46) (v := .d (.ag (eXCase ((XCase.mk (⟨#[]⟩) (⟨#[]⟩) (⟨#[]⟩) 0 0 0 0 0 0 (XAppeal.mk 0 0 0)))))) rfl (og rfl (of_eff (op_build rfl Tryd.underlying35 ti35 rfl (by kernel_rfl) (by kernel_rfl) (pl := #[(0, 1), (1, 1), (2, 1), (3, 1), (4, 1), (5, 1), (6, 1), (7, 1), (8, 1), (9, 3)]) (by kernel_rfl) .nil rfl) rfl)) ?_
                refine rg_sto (nw := [(101, .bx 35 ((eXCase ((XCase.mk (⟨#[]⟩) (⟨#[]⟩) (⟨#[]⟩) 0 0 0 0 0 0 (XAppeal.mk 0 0 0))))))]) rfl (og rfl (of_eff (s_store rfl rfl ti35 rfl rfl rfl rfl rfl rfl) rfl)) ?_
                refine rg_put (d := 11) (v := .d (.fl (.int .i64 13))) rfl (og rfl (op_assign rfl rfl rfl)) ?_
                refine rg_done rfl ?_
                refine a_ret ?_
                show ∃ ds, ResL _ _ _ ds ∧ RV.of ds = _
                refine ⟨[.ag [.fl (.string ((XCase.mk (⟨#[]⟩) (⟨#[]⟩) (⟨#[]⟩) 0 0 0 0 0 0 (XAppeal.mk 0 0 0)).idx)), .fl (.string ((XCase.mk (⟨#[]⟩) (⟨#[]⟩) (⟨#[]⟩) 0 0 0 0 0 0 (XAppeal.mk 0 0 0)).platex)), .fl (.string ((XCase.mk (⟨#[]⟩) (⟨#[]⟩) (⟨#[]⟩) 0 0 0 0 0 0 (XAppeal.mk 0 0 0)).keyx)), .fl (.int .i64 ((XCase.mk (⟨#[]⟩) (⟨#[]⟩) (⟨#[]⟩) 0 0 0 0 0 0 (XAppeal.mk 0 0 0)).begunx)), .fl (.int .i64 ((XCase.mk (⟨#[]⟩) (⟨#[]⟩) (⟨#[]⟩) 0 0 0 0 0 0 (XAppeal.mk 0 0 0)).sincex)), .fl (.int .i64 ((XCase.mk (⟨#[]⟩) (⟨#[]⟩) (⟨#[]⟩) 0 0 0 0 0 0 (XAppeal.mk 0 0 0)).stagex)), .fl (.int .i64 ((XCase.mk (⟨#[]⟩) (⟨#[]⟩) (⟨#[]⟩) 0 0 0 0 0 0 (XAppeal.mk 0 0 0)).owedx)), .fl (.int .i64 ((XCase.mk (⟨#[]⟩) (⟨#[]⟩) (⟨#[]⟩) 0 0 0 0 0 0 (XAppeal.mk 0 0 0)).paidx)), .fl (.int .i64 ((XCase.mk (⟨#[]⟩) (⟨#[]⟩) (⟨#[]⟩) 0 0 0 0 0 0 (XAppeal.mk 0 0 0)).pausedx)), .fl (.int .i64 (((XCase.mk (⟨#[]⟩) (⟨#[]⟩) (⟨#[]⟩) 0 0 0 0 0 0 (XAppeal.mk 0 0 0)).appealx).statex)), .fl (.int .i64 (((XCase.mk (⟨#[]⟩) (⟨#[]⟩) (⟨#[]⟩) 0 0 0 0 0 0 (XAppeal.mk 0 0 0)).appealx).groundx)), .fl (.int .i64 (((XCase.mk (⟨#[]⟩) (⟨#[]⟩) (⟨#[]⟩) 0 0 0 0 0 0 (XAppeal.mk 0 0 0)).appealx).dayx))], .fl (.int .i64 13)], (.cons (.cellT rfl rfl Tryd.underlying35 rfl ti35 rfl (Cv.ag (xs := [.fl (.string ((XCase.mk (⟨#[]⟩) (⟨#[]⟩) (⟨#[]⟩) 0 0 0 0 0 0 (XAppeal.mk 0 0 0)).idx)), .fl (.string ((XCase.mk (⟨#[]⟩) (⟨#[]⟩) (⟨#[]⟩) 0 0 0 0 0 0 (XAppeal.mk 0 0 0)).platex)), .fl (.string ((XCase.mk (⟨#[]⟩) (⟨#[]⟩) (⟨#[]⟩) 0 0 0 0 0 0 (XAppeal.mk 0 0 0)).keyx)), .fl (.int .i64 ((XCase.mk (⟨#[]⟩) (⟨#[]⟩) (⟨#[]⟩) 0 0 0 0 0 0 (XAppeal.mk 0 0 0)).begunx)), .fl (.int .i64 ((XCase.mk (⟨#[]⟩) (⟨#[]⟩) (⟨#[]⟩) 0 0 0 0 0 0 (XAppeal.mk 0 0 0)).sincex)), .fl (.int .i64 ((XCase.mk (⟨#[]⟩) (⟨#[]⟩) (⟨#[]⟩) 0 0 0 0 0 0 (XAppeal.mk 0 0 0)).stagex)), .fl (.int .i64 ((XCase.mk (⟨#[]⟩) (⟨#[]⟩) (⟨#[]⟩) 0 0 0 0 0 0 (XAppeal.mk 0 0 0)).owedx)), .fl (.int .i64 ((XCase.mk (⟨#[]⟩) (⟨#[]⟩) (⟨#[]⟩) 0 0 0 0 0 0 (XAppeal.mk 0 0 0)).paidx)), .fl (.int .i64 ((XCase.mk (⟨#[]⟩) (⟨#[]⟩) (⟨#[]⟩) 0 0 0 0 0 0 (XAppeal.mk 0 0 0)).pausedx)), .fl (.int .i64 (((XCase.mk (⟨#[]⟩) (⟨#[]⟩) (⟨#[]⟩) 0 0 0 0 0 0 (XAppeal.mk 0 0 0)).appealx).statex)), .fl (.int .i64 (((XCase.mk (⟨#[]⟩) (⟨#[]⟩) (⟨#[]⟩) 0 0 0 0 0 0 (XAppeal.mk 0 0 0)).appealx).groundx)), .fl (.int .i64 (((XCase.mk (⟨#[]⟩) (⟨#[]⟩) (⟨#[]⟩) 0 0 0 0 0 0 (XAppeal.mk 0 0 0)).appealx).dayx))]) (ys := [.fl (.string ((XCase.mk (⟨#[]⟩) (⟨#[]⟩) (⟨#[]⟩) 0 0 0 0 0 0 (XAppeal.mk 0 0 0)).idx)), .fl (.string ((XCase.mk (⟨#[]⟩) (⟨#[]⟩) (⟨#[]⟩) 0 0 0 0 0 0 (XAppeal.mk 0 0 0)).platex)), .fl (.string ((XCase.mk (⟨#[]⟩) (⟨#[]⟩) (⟨#[]⟩) 0 0 0 0 0 0 (XAppeal.mk 0 0 0)).keyx)), .fl (.int .i64 ((XCase.mk (⟨#[]⟩) (⟨#[]⟩) (⟨#[]⟩) 0 0 0 0 0 0 (XAppeal.mk 0 0 0)).begunx)), .fl (.int .i64 ((XCase.mk (⟨#[]⟩) (⟨#[]⟩) (⟨#[]⟩) 0 0 0 0 0 0 (XAppeal.mk 0 0 0)).sincex)), .fl (.int .i64 ((XCase.mk (⟨#[]⟩) (⟨#[]⟩) (⟨#[]⟩) 0 0 0 0 0 0 (XAppeal.mk 0 0 0)).stagex)), .fl (.int .i64 ((XCase.mk (⟨#[]⟩) (⟨#[]⟩) (⟨#[]⟩) 0 0 0 0 0 0 (XAppeal.mk 0 0 0)).owedx)), .fl (.int .i64 ((XCase.mk (⟨#[]⟩) (⟨#[]⟩) (⟨#[]⟩) 0 0 0 0 0 0 (XAppeal.mk 0 0 0)).paidx)), .fl (.int .i64 ((XCase.mk (⟨#[]⟩) (⟨#[]⟩) (⟨#[]⟩) 0 0 0 0 0 0 (XAppeal.mk 0 0 0)).pausedx)), .fl (.int .i64 (((XCase.mk (⟨#[]⟩) (⟨#[]⟩) (⟨#[]⟩) 0 0 0 0 0 0 (XAppeal.mk 0 0 0)).appealx).statex)), .fl (.int .i64 (((XCase.mk (⟨#[]⟩) (⟨#[]⟩) (⟨#[]⟩) 0 0 0 0 0 0 (XAppeal.mk 0 0 0)).appealx).groundx)), .fl (.int .i64 (((XCase.mk (⟨#[]⟩) (⟨#[]⟩) (⟨#[]⟩) 0 0 0 0 0 0 (XAppeal.mk 0 0 0)).appealx).dayx))]) ⟨Cv.refl _, Cv.refl _, Cv.refl _, Cv.refl _, Cv.refl _, Cv.refl _, Cv.refl _, Cv.refl _, Cv.refl _, Cv.refl _, Cv.refl _, Cv.refl _, trivial⟩)) (.cons (.tmp rfl (.d _)) .nil)), ?_⟩
                have gg0 := bneb h4
                have gg1 := bneb h21
                have hv : veh p = true := by unfold veh; simp only [gg0, gg1, h1, h3, h4, h6, h20, h21, h24, h26, h27, h29, Bool.true_or, Bool.false_or, Bool.or_true, Bool.or_false, Bool.not_true, Bool.not_false, cond_true, cond_false, Bool.true_and, Bool.false_and, Bool.and_true, Bool.and_false]
                have hu : newE id p k c d = 13 := by unfold newE; simp only [hv, h1, h3, h4, h6, h20, h21, h24, h26, h27, h29, Bool.true_or, Bool.false_or, Bool.or_true, Bool.or_false, Bool.not_true, Bool.not_false, cond_true, cond_false, Bool.true_and, Bool.false_and, Bool.and_true, Bool.and_false]
                rw [newC_bad hu (by decide), hu]; rfl
              · skip
                have h31 := f_dec h29
                refine a_skip ?_
                show A _ _ _ _ _ _ _
                refine a_seq ?_
                refine a_rseq ?_
                refine rg_put (d := 47) (v := .d (.fl (.int .i64 d))) rfl (og rfl (op_move rfl rfl rfl)) ?_
                refine rg_put (d := 48) (v := .d (.fl (.bool (isD d)))) rfl (og rfl (op_call rfl Tryd.func33 nm33 rfl (.cons rfl (.d _) .nil) (isDC33 d) rfl)) ?_
                refine rg_put (d := 49) (v := .d (.fl (.bool ((!(isD d)))))) rfl (og rfl (op_un rfl rfl (u_not _) rfl)) ?_
                refine rg_done rfl ?_
                refine a_cond rfl (fun h32 => ?_) (fun h32 => ?_)
                · skip
                  have h33 := t_not h32
                  refine a_rseq ?_
                  refine rg_put (d := 50) (v := .d (.ag (eXCase ((XCase.mk (⟨#[]⟩) (⟨#[]⟩) (⟨#[]⟩) 0 0 0 0 0 0 (XAppeal.mk 0 0 0)))))) rfl (og rfl (of_eff (op_build rfl Tryd.underlying35 ti35 rfl (by kernel_rfl) (by kernel_rfl) (pl := #[(0, 1), (1, 1), (2, 1), (3, 1), (4, 1), (5, 1), (6, 1), (7, 1), (8, 1), (9, 3)]) (by kernel_rfl) .nil rfl) rfl)) ?_
                  refine rg_sto (nw := [(101, .bx 35 ((eXCase ((XCase.mk (⟨#[]⟩) (⟨#[]⟩) (⟨#[]⟩) 0 0 0 0 0 0 (XAppeal.mk 0 0 0))))))]) rfl (og rfl (of_eff (s_store rfl rfl ti35 rfl rfl rfl rfl rfl rfl) rfl)) ?_
                  refine rg_put (d := 11) (v := .d (.fl (.int .i64 12))) rfl (og rfl (op_assign rfl rfl rfl)) ?_
                  refine rg_done rfl ?_
                  refine a_ret ?_
                  show ∃ ds, ResL _ _ _ ds ∧ RV.of ds = _
                  refine ⟨[.ag [.fl (.string ((XCase.mk (⟨#[]⟩) (⟨#[]⟩) (⟨#[]⟩) 0 0 0 0 0 0 (XAppeal.mk 0 0 0)).idx)), .fl (.string ((XCase.mk (⟨#[]⟩) (⟨#[]⟩) (⟨#[]⟩) 0 0 0 0 0 0 (XAppeal.mk 0 0 0)).platex)), .fl (.string ((XCase.mk (⟨#[]⟩) (⟨#[]⟩) (⟨#[]⟩) 0 0 0 0 0 0 (XAppeal.mk 0 0 0)).keyx)), .fl (.int .i64 ((XCase.mk (⟨#[]⟩) (⟨#[]⟩) (⟨#[]⟩) 0 0 0 0 0 0 (XAppeal.mk 0 0 0)).begunx)), .fl (.int .i64 ((XCase.mk (⟨#[]⟩) (⟨#[]⟩) (⟨#[]⟩) 0 0 0 0 0 0 (XAppeal.mk 0 0 0)).sincex)), .fl (.int .i64 ((XCase.mk (⟨#[]⟩) (⟨#[]⟩) (⟨#[]⟩) 0 0 0 0 0 0 (XAppeal.mk 0 0 0)).stagex)), .fl (.int .i64 ((XCase.mk (⟨#[]⟩) (⟨#[]⟩) (⟨#[]⟩) 0 0 0 0 0 0 (XAppeal.mk 0 0 0)).owedx)), .fl (.int .i64 ((XCase.mk (⟨#[]⟩) (⟨#[]⟩) (⟨#[]⟩) 0 0 0 0 0 0 (XAppeal.mk 0 0 0)).paidx)), .fl (.int .i64 ((XCase.mk (⟨#[]⟩) (⟨#[]⟩) (⟨#[]⟩) 0 0 0 0 0 0 (XAppeal.mk 0 0 0)).pausedx)), .fl (.int .i64 (((XCase.mk (⟨#[]⟩) (⟨#[]⟩) (⟨#[]⟩) 0 0 0 0 0 0 (XAppeal.mk 0 0 0)).appealx).statex)), .fl (.int .i64 (((XCase.mk (⟨#[]⟩) (⟨#[]⟩) (⟨#[]⟩) 0 0 0 0 0 0 (XAppeal.mk 0 0 0)).appealx).groundx)), .fl (.int .i64 (((XCase.mk (⟨#[]⟩) (⟨#[]⟩) (⟨#[]⟩) 0 0 0 0 0 0 (XAppeal.mk 0 0 0)).appealx).dayx))], .fl (.int .i64 12)], (.cons (.cellT rfl rfl Tryd.underlying35 rfl ti35 rfl (Cv.ag (xs := [.fl (.string ((XCase.mk (⟨#[]⟩) (⟨#[]⟩) (⟨#[]⟩) 0 0 0 0 0 0 (XAppeal.mk 0 0 0)).idx)), .fl (.string ((XCase.mk (⟨#[]⟩) (⟨#[]⟩) (⟨#[]⟩) 0 0 0 0 0 0 (XAppeal.mk 0 0 0)).platex)), .fl (.string ((XCase.mk (⟨#[]⟩) (⟨#[]⟩) (⟨#[]⟩) 0 0 0 0 0 0 (XAppeal.mk 0 0 0)).keyx)), .fl (.int .i64 ((XCase.mk (⟨#[]⟩) (⟨#[]⟩) (⟨#[]⟩) 0 0 0 0 0 0 (XAppeal.mk 0 0 0)).begunx)), .fl (.int .i64 ((XCase.mk (⟨#[]⟩) (⟨#[]⟩) (⟨#[]⟩) 0 0 0 0 0 0 (XAppeal.mk 0 0 0)).sincex)), .fl (.int .i64 ((XCase.mk (⟨#[]⟩) (⟨#[]⟩) (⟨#[]⟩) 0 0 0 0 0 0 (XAppeal.mk 0 0 0)).stagex)), .fl (.int .i64 ((XCase.mk (⟨#[]⟩) (⟨#[]⟩) (⟨#[]⟩) 0 0 0 0 0 0 (XAppeal.mk 0 0 0)).owedx)), .fl (.int .i64 ((XCase.mk (⟨#[]⟩) (⟨#[]⟩) (⟨#[]⟩) 0 0 0 0 0 0 (XAppeal.mk 0 0 0)).paidx)), .fl (.int .i64 ((XCase.mk (⟨#[]⟩) (⟨#[]⟩) (⟨#[]⟩) 0 0 0 0 0 0 (XAppeal.mk 0 0 0)).pausedx)), .fl (.int .i64 (((XCase.mk (⟨#[]⟩) (⟨#[]⟩) (⟨#[]⟩) 0 0 0 0 0 0 (XAppeal.mk 0 0 0)).appealx).statex)), .fl (.int .i64 (((XCase.mk (⟨#[]⟩) (⟨#[]⟩) (⟨#[]⟩) 0 0 0 0 0 0 (XAppeal.mk 0 0 0)).appealx).groundx)), .fl (.int .i64 (((XCase.mk (⟨#[]⟩) (⟨#[]⟩) (⟨#[]⟩) 0 0 0 0 0 0 (XAppeal.mk 0 0 0)).appealx).dayx))]) (ys := [.fl (.string ((XCase.mk (⟨#[]⟩) (⟨#[]⟩) (⟨#[]⟩) 0 0 0 0 0 0 (XAppeal.mk 0 0 0)).idx)), .fl (.string ((XCase.mk (⟨#[]⟩) (⟨#[]⟩) (⟨#[]⟩) 0 0 0 0 0 0 (XAppeal.mk 0 0 0)).platex)), .fl (.string ((XCase.mk (⟨#[]⟩) (⟨#[]⟩) (⟨#[]⟩) 0 0 0 0 0 0 (XAppeal.mk 0 0 0)).keyx)), .fl (.int .i64 ((XCase.mk (⟨#[]⟩) (⟨#[]⟩) (⟨#[]⟩) 0 0 0 0 0 0 (XAppeal.mk 0 0 0)).begunx)), .fl (.int .i64 ((XCase.mk (⟨#[]⟩) (⟨#[]⟩) (⟨#[]⟩) 0 0 0 0 0 0 (XAppeal.mk 0 0 0)).sincex)), .fl (.int .i64 ((XCase.mk (⟨#[]⟩) (⟨#[]⟩) (⟨#[]⟩) 0 0 0 0 0 0 (XAppeal.mk 0 0 0)).stagex)), .fl (.int .i64 ((XCase.mk (⟨#[]⟩) (⟨#[]⟩) (⟨#[]⟩) 0 0 0 0 0 0 (XAppeal.mk 0 0 0)).owedx)), .fl (.int .i64 ((XCase.mk (⟨#[]⟩) (⟨#[]⟩) (⟨#[]⟩) 0 0 0 0 0 0 (XAppeal.mk 0 0 0)).paidx)), .fl (.int .i64 ((XCase.mk (⟨#[]⟩) (⟨#[]⟩) (⟨#[]⟩) 0 0 0 0 0 0 (XAppeal.mk 0 0 0)).pausedx)), .fl (.int .i64 (((XCase.mk (⟨#[]⟩) (⟨#[]⟩) (⟨#[]⟩) 0 0 0 0 0 0 (XAppeal.mk 0 0 0)).appealx).statex)), .fl (.int .i64 (((XCase.mk (⟨#[]⟩) (⟨#[]⟩) (⟨#[]⟩) 0 0 0 0 0 0 (XAppeal.mk 0 0 0)).appealx).groundx)), .fl (.int .i64 (((XCase.mk (⟨#[]⟩) (⟨#[]⟩) (⟨#[]⟩) 0 0 0 0 0 0 (XAppeal.mk 0 0 0)).appealx).dayx))]) ⟨Cv.refl _, Cv.refl _, Cv.refl _, Cv.refl _, Cv.refl _, Cv.refl _, Cv.refl _, Cv.refl _, Cv.refl _, Cv.refl _, Cv.refl _, Cv.refl _, trivial⟩)) (.cons (.tmp rfl (.d _)) .nil)), ?_⟩
                  have gg0 := bneb h4
                  have gg1 := bneb h21
                  have hv : veh p = true := by unfold veh; simp only [gg0, gg1, h1, h3, h4, h6, h20, h21, h24, h26, h27, h29, h32, h33, Bool.true_or, Bool.false_or, Bool.or_true, Bool.or_false, Bool.not_true, Bool.not_false, cond_true, cond_false, Bool.true_and, Bool.false_and, Bool.and_true, Bool.and_false]
                  have hu : newE id p k c d = 12 := by unfold newE; simp only [hv, h1, h3, h4, h6, h20, h21, h24, h26, h27, h29, h32, h33, Bool.true_or, Bool.false_or, Bool.or_true, Bool.or_false, Bool.not_true, Bool.not_false, cond_true, cond_false, Bool.true_and, Bool.false_and, Bool.and_true, Bool.and_false]
                  rw [newC_bad hu (by decide), hu]; rfl
                · skip
                  have h34 := f_not h32
                  refine a_skip ?_
                  show A _ _ _ _ _ _ _
                  refine a_rseq ?_
                  refine rg_put (d := 51) (v := .d (.fl (.string id))) rfl (og rfl (op_move rfl rfl rfl)) ?_
                  refine rg_put (d := 52) (v := .d (.fl (.string p))) rfl (og rfl (op_move rfl rfl rfl)) ?_
                  refine rg_put (d := 53) (v := .d (.fl (.string k))) rfl (og rfl (op_move rfl rfl rfl)) ?_
                  refine rg_put (d := 54) (v := .d (.fl (.int .i64 d))) rfl (og rfl (op_move rfl rfl rfl)) ?_
                  refine rg_put (d := 55) (v := .d (.fl (.int .i64 d))) rfl (og rfl (op_move rfl rfl rfl)) ?_
                  refine rg_put (d := 56) (v := .d (.fl (.int .i64 c))) rfl (og rfl (op_move rfl rfl rfl)) ?_
                  refine rg_put (d := 57) (v := .d (.ag (eXCase ((XCase.mk id p k d d 1 c 0 0 (XAppeal.mk 0 0 0)))))) rfl (og rfl (of_eff (op_build rfl Tryd.underlying35 ti35 rfl (by kernel_rfl) (by kernel_rfl) (pl := #[(0, 1), (1, 1), (2, 1), (3, 1), (4, 1), (5, 1), (6, 1), (7, 1), (8, 1), (9, 3)]) (by kernel_rfl) (.cons rfl rfl (.d _) rfl rfl rfl (.cons rfl rfl (.d _) rfl rfl rfl (.cons rfl rfl (.d _) rfl rfl rfl (.cons rfl rfl (.d _) rfl rfl rfl (.cons rfl rfl (.d _) rfl rfl rfl (.cons rfl rfl (.d _) rfl rfl rfl (.cons rfl rfl (.d _) rfl rfl rfl .nil))))))) rfl) rfl)) ?_
                  refine rg_sto (nw := [(101, .bx 35 ((eXCase ((XCase.mk id p k d d 1 c 0 0 (XAppeal.mk 0 0 0))))))]) rfl (og rfl (of_eff (s_store rfl rfl ti35 rfl rfl rfl rfl rfl rfl) rfl)) ?_
                  refine rg_put (d := 11) (v := .d (.fl (.int .i64 0))) rfl (og rfl (op_assign rfl rfl rfl)) ?_
                  refine rg_done rfl ?_
                  refine a_ret ?_
                  show ∃ ds, ResL _ _ _ ds ∧ RV.of ds = _
                  refine ⟨[.ag [.fl (.string ((XCase.mk id p k d d 1 c 0 0 (XAppeal.mk 0 0 0)).idx)), .fl (.string ((XCase.mk id p k d d 1 c 0 0 (XAppeal.mk 0 0 0)).platex)), .fl (.string ((XCase.mk id p k d d 1 c 0 0 (XAppeal.mk 0 0 0)).keyx)), .fl (.int .i64 ((XCase.mk id p k d d 1 c 0 0 (XAppeal.mk 0 0 0)).begunx)), .fl (.int .i64 ((XCase.mk id p k d d 1 c 0 0 (XAppeal.mk 0 0 0)).sincex)), .fl (.int .i64 ((XCase.mk id p k d d 1 c 0 0 (XAppeal.mk 0 0 0)).stagex)), .fl (.int .i64 ((XCase.mk id p k d d 1 c 0 0 (XAppeal.mk 0 0 0)).owedx)), .fl (.int .i64 ((XCase.mk id p k d d 1 c 0 0 (XAppeal.mk 0 0 0)).paidx)), .fl (.int .i64 ((XCase.mk id p k d d 1 c 0 0 (XAppeal.mk 0 0 0)).pausedx)), .fl (.int .i64 (((XCase.mk id p k d d 1 c 0 0 (XAppeal.mk 0 0 0)).appealx).statex)), .fl (.int .i64 (((XCase.mk id p k d d 1 c 0 0 (XAppeal.mk 0 0 0)).appealx).groundx)), .fl (.int .i64 (((XCase.mk id p k d d 1 c 0 0 (XAppeal.mk 0 0 0)).appealx).dayx))], .fl (.int .i64 0)], (.cons (.cellT rfl rfl Tryd.underlying35 rfl ti35 rfl (Cv.ag (xs := [.fl (.string ((XCase.mk id p k d d 1 c 0 0 (XAppeal.mk 0 0 0)).idx)), .fl (.string ((XCase.mk id p k d d 1 c 0 0 (XAppeal.mk 0 0 0)).platex)), .fl (.string ((XCase.mk id p k d d 1 c 0 0 (XAppeal.mk 0 0 0)).keyx)), .fl (.int .i64 ((XCase.mk id p k d d 1 c 0 0 (XAppeal.mk 0 0 0)).begunx)), .fl (.int .i64 ((XCase.mk id p k d d 1 c 0 0 (XAppeal.mk 0 0 0)).sincex)), .fl (.int .i64 ((XCase.mk id p k d d 1 c 0 0 (XAppeal.mk 0 0 0)).stagex)), .fl (.int .i64 ((XCase.mk id p k d d 1 c 0 0 (XAppeal.mk 0 0 0)).owedx)), .fl (.int .i64 ((XCase.mk id p k d d 1 c 0 0 (XAppeal.mk 0 0 0)).paidx)), .fl (.int .i64 ((XCase.mk id p k d d 1 c 0 0 (XAppeal.mk 0 0 0)).pausedx)), .fl (.int .i64 (((XCase.mk id p k d d 1 c 0 0 (XAppeal.mk 0 0 0)).appealx).statex)), .fl (.int .i64 (((XCase.mk id p k d d 1 c 0 0 (XAppeal.mk 0 0 0)).appealx).groundx)), .fl (.int .i64 (((XCase.mk id p k d d 1 c 0 0 (XAppeal.mk 0 0 0)).appealx).dayx))]) (ys := [.fl (.string ((XCase.mk id p k d d 1 c 0 0 (XAppeal.mk 0 0 0)).idx)), .fl (.string ((XCase.mk id p k d d 1 c 0 0 (XAppeal.mk 0 0 0)).platex)), .fl (.string ((XCase.mk id p k d d 1 c 0 0 (XAppeal.mk 0 0 0)).keyx)), .fl (.int .i64 ((XCase.mk id p k d d 1 c 0 0 (XAppeal.mk 0 0 0)).begunx)), .fl (.int .i64 ((XCase.mk id p k d d 1 c 0 0 (XAppeal.mk 0 0 0)).sincex)), .fl (.int .i64 ((XCase.mk id p k d d 1 c 0 0 (XAppeal.mk 0 0 0)).stagex)), .fl (.int .i64 ((XCase.mk id p k d d 1 c 0 0 (XAppeal.mk 0 0 0)).owedx)), .fl (.int .i64 ((XCase.mk id p k d d 1 c 0 0 (XAppeal.mk 0 0 0)).paidx)), .fl (.int .i64 ((XCase.mk id p k d d 1 c 0 0 (XAppeal.mk 0 0 0)).pausedx)), .fl (.int .i64 (((XCase.mk id p k d d 1 c 0 0 (XAppeal.mk 0 0 0)).appealx).statex)), .fl (.int .i64 (((XCase.mk id p k d d 1 c 0 0 (XAppeal.mk 0 0 0)).appealx).groundx)), .fl (.int .i64 (((XCase.mk id p k d d 1 c 0 0 (XAppeal.mk 0 0 0)).appealx).dayx))]) ⟨Cv.refl _, Cv.refl _, Cv.refl _, Cv.refl _, Cv.refl _, Cv.refl _, Cv.refl _, Cv.refl _, Cv.refl _, Cv.refl _, Cv.refl _, Cv.refl _, trivial⟩)) (.cons (.tmp rfl (.d _)) .nil)), ?_⟩
                  have gg0 := bneb h4
                  have gg1 := bneb h21
                  have hv : veh p = true := by unfold veh; simp only [gg0, gg1, h1, h3, h4, h6, h20, h21, h24, h26, h27, h29, h32, h34, Bool.true_or, Bool.false_or, Bool.or_true, Bool.or_false, Bool.not_true, Bool.not_false, cond_true, cond_false, Bool.true_and, Bool.false_and, Bool.and_true, Bool.and_false]
                  have hu : newE id p k c d = 0 := by unfold newE; simp only [hv, h1, h3, h4, h6, h20, h21, h24, h26, h27, h29, h32, h34, Bool.true_or, Bool.false_or, Bool.or_true, Bool.or_false, Bool.not_true, Bool.not_false, cond_true, cond_false, Bool.true_and, Bool.false_and, Bool.and_true, Bool.and_false]
                  rw [newC_ok hu, hu]; rfl
            · skip
              have h35 := t_dec h27
              refine rg_put (d := 43) (v := .d (.fl undef)) rfl (on rfl rfl rfl h27) ?_
              refine rg_put (d := 44) (v := .d (.fl undef)) rfl (on rfl rfl rfl h27) ?_
              refine rg_put (d := 45) (v := .d (.fl (.bool true))) rfl (og rfl (op_pick rfl rfl (by rw [h27]; rfl) rfl)) ?_
              refine rg_done rfl ?_
              refine a_condK rfl rfl ?_
              refine a_rseq ?_
              refine rg_put (d := 46) (v := .d (.ag (eXCase ((XCase.mk (⟨#[]⟩) (⟨#[]⟩) (⟨#[]⟩) 0 0 0 0 0 0 (XAppeal.mk 0 0 0)))))) rfl (og rfl (of_eff (op_build rfl Tryd.underlying35 ti35 rfl (by kernel_rfl) (by kernel_rfl) (pl := #[(0, 1), (1, 1), (2, 1), (3, 1), (4, 1), (5, 1), (6, 1), (7, 1), (8, 1), (9, 3)]) (by kernel_rfl) .nil rfl) rfl)) ?_
              refine rg_sto (nw := [(101, .bx 35 ((eXCase ((XCase.mk (⟨#[]⟩) (⟨#[]⟩) (⟨#[]⟩) 0 0 0 0 0 0 (XAppeal.mk 0 0 0))))))]) rfl (og rfl (of_eff (s_store rfl rfl ti35 rfl rfl rfl rfl rfl rfl) rfl)) ?_
              refine rg_put (d := 11) (v := .d (.fl (.int .i64 13))) rfl (og rfl (op_assign rfl rfl rfl)) ?_
              refine rg_done rfl ?_
              refine a_ret ?_
              show ∃ ds, ResL _ _ _ ds ∧ RV.of ds = _
              refine ⟨[.ag [.fl (.string ((XCase.mk (⟨#[]⟩) (⟨#[]⟩) (⟨#[]⟩) 0 0 0 0 0 0 (XAppeal.mk 0 0 0)).idx)), .fl (.string ((XCase.mk (⟨#[]⟩) (⟨#[]⟩) (⟨#[]⟩) 0 0 0 0 0 0 (XAppeal.mk 0 0 0)).platex)), .fl (.string ((XCase.mk (⟨#[]⟩) (⟨#[]⟩) (⟨#[]⟩) 0 0 0 0 0 0 (XAppeal.mk 0 0 0)).keyx)), .fl (.int .i64 ((XCase.mk (⟨#[]⟩) (⟨#[]⟩) (⟨#[]⟩) 0 0 0 0 0 0 (XAppeal.mk 0 0 0)).begunx)), .fl (.int .i64 ((XCase.mk (⟨#[]⟩) (⟨#[]⟩) (⟨#[]⟩) 0 0 0 0 0 0 (XAppeal.mk 0 0 0)).sincex)), .fl (.int .i64 ((XCase.mk (⟨#[]⟩) (⟨#[]⟩) (⟨#[]⟩) 0 0 0 0 0 0 (XAppeal.mk 0 0 0)).stagex)), .fl (.int .i64 ((XCase.mk (⟨#[]⟩) (⟨#[]⟩) (⟨#[]⟩) 0 0 0 0 0 0 (XAppeal.mk 0 0 0)).owedx)), .fl (.int .i64 ((XCase.mk (⟨#[]⟩) (⟨#[]⟩) (⟨#[]⟩) 0 0 0 0 0 0 (XAppeal.mk 0 0 0)).paidx)), .fl (.int .i64 ((XCase.mk (⟨#[]⟩) (⟨#[]⟩) (⟨#[]⟩) 0 0 0 0 0 0 (XAppeal.mk 0 0 0)).pausedx)), .fl (.int .i64 (((XCase.mk (⟨#[]⟩) (⟨#[]⟩) (⟨#[]⟩) 0 0 0 0 0 0 (XAppeal.mk 0 0 0)).appealx).statex)), .fl (.int .i64 (((XCase.mk (⟨#[]⟩) (⟨#[]⟩) (⟨#[]⟩) 0 0 0 0 0 0 (XAppeal.mk 0 0 0)).appealx).groundx)), .fl (.int .i64 (((XCase.mk (⟨#[]⟩) (⟨#[]⟩) (⟨#[]⟩) 0 0 0 0 0 0 (XAppeal.mk 0 0 0)).appealx).dayx))], .fl (.int .i64 13)], (.cons (.cellT rfl rfl Tryd.underlying35 rfl ti35 rfl (Cv.ag (xs := [.fl (.string ((XCase.mk (⟨#[]⟩) (⟨#[]⟩) (⟨#[]⟩) 0 0 0 0 0 0 (XAppeal.mk 0 0 0)).idx)), .fl (.string ((XCase.mk (⟨#[]⟩) (⟨#[]⟩) (⟨#[]⟩) 0 0 0 0 0 0 (XAppeal.mk 0 0 0)).platex)), .fl (.string ((XCase.mk (⟨#[]⟩) (⟨#[]⟩) (⟨#[]⟩) 0 0 0 0 0 0 (XAppeal.mk 0 0 0)).keyx)), .fl (.int .i64 ((XCase.mk (⟨#[]⟩) (⟨#[]⟩) (⟨#[]⟩) 0 0 0 0 0 0 (XAppeal.mk 0 0 0)).begunx)), .fl (.int .i64 ((XCase.mk (⟨#[]⟩) (⟨#[]⟩) (⟨#[]⟩) 0 0 0 0 0 0 (XAppeal.mk 0 0 0)).sincex)), .fl (.int .i64 ((XCase.mk (⟨#[]⟩) (⟨#[]⟩) (⟨#[]⟩) 0 0 0 0 0 0 (XAppeal.mk 0 0 0)).stagex)), .fl (.int .i64 ((XCase.mk (⟨#[]⟩) (⟨#[]⟩) (⟨#[]⟩) 0 0 0 0 0 0 (XAppeal.mk 0 0 0)).owedx)), .fl (.int .i64 ((XCase.mk (⟨#[]⟩) (⟨#[]⟩) (⟨#[]⟩) 0 0 0 0 0 0 (XAppeal.mk 0 0 0)).paidx)), .fl (.int .i64 ((XCase.mk (⟨#[]⟩) (⟨#[]⟩) (⟨#[]⟩) 0 0 0 0 0 0 (XAppeal.mk 0 0 0)).pausedx)), .fl (.int .i64 (((XCase.mk (⟨#[]⟩) (⟨#[]⟩) (⟨#[]⟩) 0 0 0 0 0 0 (XAppeal.mk 0 0 0)).appealx).statex)), .fl (.int .i64 (((XCase.mk (⟨#[]⟩) (⟨#[]⟩) (⟨#[]⟩) 0 0 0 0 0 0 (XAppeal.mk 0 0 0)).appealx).groundx)), .fl (.int .i64 (((XCase.mk (⟨#[]⟩) (⟨#[]⟩) (⟨#[]⟩) 0 0 0 0 0 0 (XAppeal.mk 0 0 0)).appealx).dayx))]) (ys := [.fl (.string ((XCase.mk (⟨#[]⟩) (⟨#[]⟩) (⟨#[]⟩) 0 0 0 0 0 0 (XAppeal.mk 0 0 0)).idx)), .fl (.string ((XCase.mk (⟨#[]⟩) (⟨#[]⟩) (⟨#[]⟩) 0 0 0 0 0 0 (XAppeal.mk 0 0 0)).platex)), .fl (.string ((XCase.mk (⟨#[]⟩) (⟨#[]⟩) (⟨#[]⟩) 0 0 0 0 0 0 (XAppeal.mk 0 0 0)).keyx)), .fl (.int .i64 ((XCase.mk (⟨#[]⟩) (⟨#[]⟩) (⟨#[]⟩) 0 0 0 0 0 0 (XAppeal.mk 0 0 0)).begunx)), .fl (.int .i64 ((XCase.mk (⟨#[]⟩) (⟨#[]⟩) (⟨#[]⟩) 0 0 0 0 0 0 (XAppeal.mk 0 0 0)).sincex)), .fl (.int .i64 ((XCase.mk (⟨#[]⟩) (⟨#[]⟩) (⟨#[]⟩) 0 0 0 0 0 0 (XAppeal.mk 0 0 0)).stagex)), .fl (.int .i64 ((XCase.mk (⟨#[]⟩) (⟨#[]⟩) (⟨#[]⟩) 0 0 0 0 0 0 (XAppeal.mk 0 0 0)).owedx)), .fl (.int .i64 ((XCase.mk (⟨#[]⟩) (⟨#[]⟩) (⟨#[]⟩) 0 0 0 0 0 0 (XAppeal.mk 0 0 0)).paidx)), .fl (.int .i64 ((XCase.mk (⟨#[]⟩) (⟨#[]⟩) (⟨#[]⟩) 0 0 0 0 0 0 (XAppeal.mk 0 0 0)).pausedx)), .fl (.int .i64 (((XCase.mk (⟨#[]⟩) (⟨#[]⟩) (⟨#[]⟩) 0 0 0 0 0 0 (XAppeal.mk 0 0 0)).appealx).statex)), .fl (.int .i64 (((XCase.mk (⟨#[]⟩) (⟨#[]⟩) (⟨#[]⟩) 0 0 0 0 0 0 (XAppeal.mk 0 0 0)).appealx).groundx)), .fl (.int .i64 (((XCase.mk (⟨#[]⟩) (⟨#[]⟩) (⟨#[]⟩) 0 0 0 0 0 0 (XAppeal.mk 0 0 0)).appealx).dayx))]) ⟨Cv.refl _, Cv.refl _, Cv.refl _, Cv.refl _, Cv.refl _, Cv.refl _, Cv.refl _, Cv.refl _, Cv.refl _, Cv.refl _, Cv.refl _, Cv.refl _, trivial⟩)) (.cons (.tmp rfl (.d _)) .nil)), ?_⟩
              have gg0 := bneb h4
              have gg1 := bneb h21
              have hv : veh p = true := by unfold veh; simp only [gg0, gg1, h1, h3, h4, h6, h20, h21, h24, h26, h27, Bool.true_or, Bool.false_or, Bool.or_true, Bool.or_false, Bool.not_true, Bool.not_false, cond_true, cond_false, Bool.true_and, Bool.false_and, Bool.and_true, Bool.and_false]
              have hu : newE id p k c d = 13 := by unfold newE; simp only [hv, h1, h3, h4, h6, h20, h21, h24, h26, h27, Bool.true_or, Bool.false_or, Bool.or_true, Bool.or_false, Bool.not_true, Bool.not_false, cond_true, cond_false, Bool.true_and, Bool.false_and, Bool.and_true, Bool.and_false]
              rw [newC_bad hu (by decide), hu]; rfl
    · skip
      have h36 := t_bne h4
      refine rg_put (d := 26) (v := .d (.fl undef)) rfl (on rfl rfl rfl h4) ?_
      refine rg_put (d := 27) (v := .d (.fl undef)) rfl (on rfl rfl rfl h4) ?_
      refine rg_put (d := 28) (v := .d (.fl undef)) rfl (on rfl rfl rfl h4) ?_
      refine rg_put (d := 29) (v := .d (.fl (.bool true))) rfl (og rfl (op_pick rfl rfl (by rw [h4]; rfl) rfl)) ?_
      refine rg_put (d := 30) (v := .d (.fl (.bool true))) rfl (og rfl (op_move rfl rfl rfl)) ?_
      refine rg_put (d := 31) (v := .d (.fl (.string p))) rfl (oy rfl rfl rfl rfl (op_move rfl rfl rfl)) ?_
      refine rg_put (d := 32) (v := .d (.fl (.int .i64 (Tm.ck p)))) rfl (oy rfl rfl rfl rfl (op_call rfl Tryd.func32 nm32 rfl (.cons rfl (.d _) .nil) (tagC32 p) rfl)) ?_
      refine rg_put (d := 33) (v := .d (.fl (.bool (((Tm.ck p) != 0))))) rfl (oy rfl rfl rfl rfl (op_bin rfl rfl rfl (b_neq _ _ _ _) rfl)) ?_
      refine rg_put (d := 34) (v := .d (.fl (.bool (((Tm.ck p) != 0))))) rfl (og rfl (op_pick rfl rfl rfl rfl)) ?_
      refine rg_done rfl ?_
      refine a_cond rfl (fun h37 => ?_) (fun h37 => ?_)
      · skip
        have h38 := t_bne h37
        refine a_rseq ?_
        refine rg_put (d := 35) (v := .d (.ag (eXCase ((XCase.mk (⟨#[]⟩) (⟨#[]⟩) (⟨#[]⟩) 0 0 0 0 0 0 (XAppeal.mk 0 0 0)))))) rfl (og rfl (of_eff (op_build rfl Tryd.underlying35 ti35 rfl (by kernel_rfl) (by kernel_rfl) (pl := #[(0, 1), (1, 1), (2, 1), (3, 1), (4, 1), (5, 1), (6, 1), (7, 1), (8, 1), (9, 3)]) (by kernel_rfl) .nil rfl) rfl)) ?_
        refine rg_sto (nw := [(101, .bx 35 ((eXCase ((XCase.mk (⟨#[]⟩) (⟨#[]⟩) (⟨#[]⟩) 0 0 0 0 0 0 (XAppeal.mk 0 0 0))))))]) rfl (og rfl (of_eff (s_store rfl rfl ti35 rfl rfl rfl rfl rfl rfl) rfl)) ?_
        refine rg_put (d := 11) (v := .d (.fl (.int .i64 19))) rfl (og rfl (op_assign rfl rfl rfl)) ?_
        refine rg_done rfl ?_
        refine a_ret ?_
        show ∃ ds, ResL _ _ _ ds ∧ RV.of ds = _
        refine ⟨[.ag [.fl (.string ((XCase.mk (⟨#[]⟩) (⟨#[]⟩) (⟨#[]⟩) 0 0 0 0 0 0 (XAppeal.mk 0 0 0)).idx)), .fl (.string ((XCase.mk (⟨#[]⟩) (⟨#[]⟩) (⟨#[]⟩) 0 0 0 0 0 0 (XAppeal.mk 0 0 0)).platex)), .fl (.string ((XCase.mk (⟨#[]⟩) (⟨#[]⟩) (⟨#[]⟩) 0 0 0 0 0 0 (XAppeal.mk 0 0 0)).keyx)), .fl (.int .i64 ((XCase.mk (⟨#[]⟩) (⟨#[]⟩) (⟨#[]⟩) 0 0 0 0 0 0 (XAppeal.mk 0 0 0)).begunx)), .fl (.int .i64 ((XCase.mk (⟨#[]⟩) (⟨#[]⟩) (⟨#[]⟩) 0 0 0 0 0 0 (XAppeal.mk 0 0 0)).sincex)), .fl (.int .i64 ((XCase.mk (⟨#[]⟩) (⟨#[]⟩) (⟨#[]⟩) 0 0 0 0 0 0 (XAppeal.mk 0 0 0)).stagex)), .fl (.int .i64 ((XCase.mk (⟨#[]⟩) (⟨#[]⟩) (⟨#[]⟩) 0 0 0 0 0 0 (XAppeal.mk 0 0 0)).owedx)), .fl (.int .i64 ((XCase.mk (⟨#[]⟩) (⟨#[]⟩) (⟨#[]⟩) 0 0 0 0 0 0 (XAppeal.mk 0 0 0)).paidx)), .fl (.int .i64 ((XCase.mk (⟨#[]⟩) (⟨#[]⟩) (⟨#[]⟩) 0 0 0 0 0 0 (XAppeal.mk 0 0 0)).pausedx)), .fl (.int .i64 (((XCase.mk (⟨#[]⟩) (⟨#[]⟩) (⟨#[]⟩) 0 0 0 0 0 0 (XAppeal.mk 0 0 0)).appealx).statex)), .fl (.int .i64 (((XCase.mk (⟨#[]⟩) (⟨#[]⟩) (⟨#[]⟩) 0 0 0 0 0 0 (XAppeal.mk 0 0 0)).appealx).groundx)), .fl (.int .i64 (((XCase.mk (⟨#[]⟩) (⟨#[]⟩) (⟨#[]⟩) 0 0 0 0 0 0 (XAppeal.mk 0 0 0)).appealx).dayx))], .fl (.int .i64 19)], (.cons (.cellT rfl rfl Tryd.underlying35 rfl ti35 rfl (Cv.ag (xs := [.fl (.string ((XCase.mk (⟨#[]⟩) (⟨#[]⟩) (⟨#[]⟩) 0 0 0 0 0 0 (XAppeal.mk 0 0 0)).idx)), .fl (.string ((XCase.mk (⟨#[]⟩) (⟨#[]⟩) (⟨#[]⟩) 0 0 0 0 0 0 (XAppeal.mk 0 0 0)).platex)), .fl (.string ((XCase.mk (⟨#[]⟩) (⟨#[]⟩) (⟨#[]⟩) 0 0 0 0 0 0 (XAppeal.mk 0 0 0)).keyx)), .fl (.int .i64 ((XCase.mk (⟨#[]⟩) (⟨#[]⟩) (⟨#[]⟩) 0 0 0 0 0 0 (XAppeal.mk 0 0 0)).begunx)), .fl (.int .i64 ((XCase.mk (⟨#[]⟩) (⟨#[]⟩) (⟨#[]⟩) 0 0 0 0 0 0 (XAppeal.mk 0 0 0)).sincex)), .fl (.int .i64 ((XCase.mk (⟨#[]⟩) (⟨#[]⟩) (⟨#[]⟩) 0 0 0 0 0 0 (XAppeal.mk 0 0 0)).stagex)), .fl (.int .i64 ((XCase.mk (⟨#[]⟩) (⟨#[]⟩) (⟨#[]⟩) 0 0 0 0 0 0 (XAppeal.mk 0 0 0)).owedx)), .fl (.int .i64 ((XCase.mk (⟨#[]⟩) (⟨#[]⟩) (⟨#[]⟩) 0 0 0 0 0 0 (XAppeal.mk 0 0 0)).paidx)), .fl (.int .i64 ((XCase.mk (⟨#[]⟩) (⟨#[]⟩) (⟨#[]⟩) 0 0 0 0 0 0 (XAppeal.mk 0 0 0)).pausedx)), .fl (.int .i64 (((XCase.mk (⟨#[]⟩) (⟨#[]⟩) (⟨#[]⟩) 0 0 0 0 0 0 (XAppeal.mk 0 0 0)).appealx).statex)), .fl (.int .i64 (((XCase.mk (⟨#[]⟩) (⟨#[]⟩) (⟨#[]⟩) 0 0 0 0 0 0 (XAppeal.mk 0 0 0)).appealx).groundx)), .fl (.int .i64 (((XCase.mk (⟨#[]⟩) (⟨#[]⟩) (⟨#[]⟩) 0 0 0 0 0 0 (XAppeal.mk 0 0 0)).appealx).dayx))]) (ys := [.fl (.string ((XCase.mk (⟨#[]⟩) (⟨#[]⟩) (⟨#[]⟩) 0 0 0 0 0 0 (XAppeal.mk 0 0 0)).idx)), .fl (.string ((XCase.mk (⟨#[]⟩) (⟨#[]⟩) (⟨#[]⟩) 0 0 0 0 0 0 (XAppeal.mk 0 0 0)).platex)), .fl (.string ((XCase.mk (⟨#[]⟩) (⟨#[]⟩) (⟨#[]⟩) 0 0 0 0 0 0 (XAppeal.mk 0 0 0)).keyx)), .fl (.int .i64 ((XCase.mk (⟨#[]⟩) (⟨#[]⟩) (⟨#[]⟩) 0 0 0 0 0 0 (XAppeal.mk 0 0 0)).begunx)), .fl (.int .i64 ((XCase.mk (⟨#[]⟩) (⟨#[]⟩) (⟨#[]⟩) 0 0 0 0 0 0 (XAppeal.mk 0 0 0)).sincex)), .fl (.int .i64 ((XCase.mk (⟨#[]⟩) (⟨#[]⟩) (⟨#[]⟩) 0 0 0 0 0 0 (XAppeal.mk 0 0 0)).stagex)), .fl (.int .i64 ((XCase.mk (⟨#[]⟩) (⟨#[]⟩) (⟨#[]⟩) 0 0 0 0 0 0 (XAppeal.mk 0 0 0)).owedx)), .fl (.int .i64 ((XCase.mk (⟨#[]⟩) (⟨#[]⟩) (⟨#[]⟩) 0 0 0 0 0 0 (XAppeal.mk 0 0 0)).paidx)), .fl (.int .i64 ((XCase.mk (⟨#[]⟩) (⟨#[]⟩) (⟨#[]⟩) 0 0 0 0 0 0 (XAppeal.mk 0 0 0)).pausedx)), .fl (.int .i64 (((XCase.mk (⟨#[]⟩) (⟨#[]⟩) (⟨#[]⟩) 0 0 0 0 0 0 (XAppeal.mk 0 0 0)).appealx).statex)), .fl (.int .i64 (((XCase.mk (⟨#[]⟩) (⟨#[]⟩) (⟨#[]⟩) 0 0 0 0 0 0 (XAppeal.mk 0 0 0)).appealx).groundx)), .fl (.int .i64 (((XCase.mk (⟨#[]⟩) (⟨#[]⟩) (⟨#[]⟩) 0 0 0 0 0 0 (XAppeal.mk 0 0 0)).appealx).dayx))]) ⟨Cv.refl _, Cv.refl _, Cv.refl _, Cv.refl _, Cv.refl _, Cv.refl _, Cv.refl _, Cv.refl _, Cv.refl _, Cv.refl _, Cv.refl _, Cv.refl _, trivial⟩)) (.cons (.tmp rfl (.d _)) .nil)), ?_⟩
        have gg0 := bneb h4
        have gg1 := bneb h37
        have hv : veh p = false := by unfold veh; simp only [gg0, gg1, h1, h3, h4, h37, Bool.true_or, Bool.false_or, Bool.or_true, Bool.or_false, Bool.not_true, Bool.not_false, cond_true, cond_false, Bool.true_and, Bool.false_and, Bool.and_true, Bool.and_false]
        have hu : newE id p k c d = 19 := by unfold newE; simp only [hv, h1, h3, h4, h37, Bool.true_or, Bool.false_or, Bool.or_true, Bool.or_false, Bool.not_true, Bool.not_false, cond_true, cond_false, Bool.true_and, Bool.false_and, Bool.and_true, Bool.and_false]
        rw [newC_bad hu (by decide), hu]; rfl
      · skip
        have h39 := f_bne h37
        refine a_skip ?_
        show A _ _ _ _ _ _ _
        refine a_seq ?_
        refine a_rseq ?_
        refine rg_put (d := 36) (v := .d (.fl (.string k))) rfl (og rfl (op_move rfl rfl rfl)) ?_
        refine rg_put (d := 37) (v := .d (.fl (.bool (isF k)))) rfl (og rfl (op_call rfl Tryd.func31 nm31 rfl (.cons rfl (.d _) .nil) (isFC31 k) rfl)) ?_
        refine rg_put (d := 38) (v := .d (.fl (.bool ((!(isF k)))))) rfl (og rfl (op_un rfl rfl (u_not _) rfl)) ?_
        refine rg_done rfl ?_
        refine a_cond rfl (fun h40 => ?_) (fun h40 => ?_)
        · skip
          have h41 := t_not h40
          refine a_rseq ?_
          refine rg_put (d := 39) (v := .d (.ag (eXCase ((XCase.mk (⟨#[]⟩) (⟨#[]⟩) (⟨#[]⟩) 0 0 0 0 0 0 (XAppeal.mk 0 0 0)))))) rfl (og rfl (of_eff (op_build rfl Tryd.underlying35 ti35 rfl (by kernel_rfl) (by kernel_rfl) (pl := #[(0, 1), (1, 1), (2, 1), (3, 1), (4, 1), (5, 1), (6, 1), (7, 1), (8, 1), (9, 3)]) (by kernel_rfl) .nil rfl) rfl)) ?_
          refine rg_sto (nw := [(101, .bx 35 ((eXCase ((XCase.mk (⟨#[]⟩) (⟨#[]⟩) (⟨#[]⟩) 0 0 0 0 0 0 (XAppeal.mk 0 0 0))))))]) rfl (og rfl (of_eff (s_store rfl rfl ti35 rfl rfl rfl rfl rfl rfl) rfl)) ?_
          refine rg_put (d := 11) (v := .d (.fl (.int .i64 5))) rfl (og rfl (op_assign rfl rfl rfl)) ?_
          refine rg_done rfl ?_
          refine a_ret ?_
          show ∃ ds, ResL _ _ _ ds ∧ RV.of ds = _
          refine ⟨[.ag [.fl (.string ((XCase.mk (⟨#[]⟩) (⟨#[]⟩) (⟨#[]⟩) 0 0 0 0 0 0 (XAppeal.mk 0 0 0)).idx)), .fl (.string ((XCase.mk (⟨#[]⟩) (⟨#[]⟩) (⟨#[]⟩) 0 0 0 0 0 0 (XAppeal.mk 0 0 0)).platex)), .fl (.string ((XCase.mk (⟨#[]⟩) (⟨#[]⟩) (⟨#[]⟩) 0 0 0 0 0 0 (XAppeal.mk 0 0 0)).keyx)), .fl (.int .i64 ((XCase.mk (⟨#[]⟩) (⟨#[]⟩) (⟨#[]⟩) 0 0 0 0 0 0 (XAppeal.mk 0 0 0)).begunx)), .fl (.int .i64 ((XCase.mk (⟨#[]⟩) (⟨#[]⟩) (⟨#[]⟩) 0 0 0 0 0 0 (XAppeal.mk 0 0 0)).sincex)), .fl (.int .i64 ((XCase.mk (⟨#[]⟩) (⟨#[]⟩) (⟨#[]⟩) 0 0 0 0 0 0 (XAppeal.mk 0 0 0)).stagex)), .fl (.int .i64 ((XCase.mk (⟨#[]⟩) (⟨#[]⟩) (⟨#[]⟩) 0 0 0 0 0 0 (XAppeal.mk 0 0 0)).owedx)), .fl (.int .i64 ((XCase.mk (⟨#[]⟩) (⟨#[]⟩) (⟨#[]⟩) 0 0 0 0 0 0 (XAppeal.mk 0 0 0)).paidx)), .fl (.int .i64 ((XCase.mk (⟨#[]⟩) (⟨#[]⟩) (⟨#[]⟩) 0 0 0 0 0 0 (XAppeal.mk 0 0 0)).pausedx)), .fl (.int .i64 (((XCase.mk (⟨#[]⟩) (⟨#[]⟩) (⟨#[]⟩) 0 0 0 0 0 0 (XAppeal.mk 0 0 0)).appealx).statex)), .fl (.int .i64 (((XCase.mk (⟨#[]⟩) (⟨#[]⟩) (⟨#[]⟩) 0 0 0 0 0 0 (XAppeal.mk 0 0 0)).appealx).groundx)), .fl (.int .i64 (((XCase.mk (⟨#[]⟩) (⟨#[]⟩) (⟨#[]⟩) 0 0 0 0 0 0 (XAppeal.mk 0 0 0)).appealx).dayx))], .fl (.int .i64 5)], (.cons (.cellT rfl rfl Tryd.underlying35 rfl ti35 rfl (Cv.ag (xs := [.fl (.string ((XCase.mk (⟨#[]⟩) (⟨#[]⟩) (⟨#[]⟩) 0 0 0 0 0 0 (XAppeal.mk 0 0 0)).idx)), .fl (.string ((XCase.mk (⟨#[]⟩) (⟨#[]⟩) (⟨#[]⟩) 0 0 0 0 0 0 (XAppeal.mk 0 0 0)).platex)), .fl (.string ((XCase.mk (⟨#[]⟩) (⟨#[]⟩) (⟨#[]⟩) 0 0 0 0 0 0 (XAppeal.mk 0 0 0)).keyx)), .fl (.int .i64 ((XCase.mk (⟨#[]⟩) (⟨#[]⟩) (⟨#[]⟩) 0 0 0 0 0 0 (XAppeal.mk 0 0 0)).begunx)), .fl (.int .i64 ((XCase.mk (⟨#[]⟩) (⟨#[]⟩) (⟨#[]⟩) 0 0 0 0 0 0 (XAppeal.mk 0 0 0)).sincex)), .fl (.int .i64 ((XCase.mk (⟨#[]⟩) (⟨#[]⟩) (⟨#[]⟩) 0 0 0 0 0 0 (XAppeal.mk 0 0 0)).stagex)), .fl (.int .i64 ((XCase.mk (⟨#[]⟩) (⟨#[]⟩) (⟨#[]⟩) 0 0 0 0 0 0 (XAppeal.mk 0 0 0)).owedx)), .fl (.int .i64 ((XCase.mk (⟨#[]⟩) (⟨#[]⟩) (⟨#[]⟩) 0 0 0 0 0 0 (XAppeal.mk 0 0 0)).paidx)), .fl (.int .i64 ((XCase.mk (⟨#[]⟩) (⟨#[]⟩) (⟨#[]⟩) 0 0 0 0 0 0 (XAppeal.mk 0 0 0)).pausedx)), .fl (.int .i64 (((XCase.mk (⟨#[]⟩) (⟨#[]⟩) (⟨#[]⟩) 0 0 0 0 0 0 (XAppeal.mk 0 0 0)).appealx).statex)), .fl (.int .i64 (((XCase.mk (⟨#[]⟩) (⟨#[]⟩) (⟨#[]⟩) 0 0 0 0 0 0 (XAppeal.mk 0 0 0)).appealx).groundx)), .fl (.int .i64 (((XCase.mk (⟨#[]⟩) (⟨#[]⟩) (⟨#[]⟩) 0 0 0 0 0 0 (XAppeal.mk 0 0 0)).appealx).dayx))]) (ys := [.fl (.string ((XCase.mk (⟨#[]⟩) (⟨#[]⟩) (⟨#[]⟩) 0 0 0 0 0 0 (XAppeal.mk 0 0 0)).idx)), .fl (.string ((XCase.mk (⟨#[]⟩) (⟨#[]⟩) (⟨#[]⟩) 0 0 0 0 0 0 (XAppeal.mk 0 0 0)).platex)), .fl (.string ((XCase.mk (⟨#[]⟩) (⟨#[]⟩) (⟨#[]⟩) 0 0 0 0 0 0 (XAppeal.mk 0 0 0)).keyx)), .fl (.int .i64 ((XCase.mk (⟨#[]⟩) (⟨#[]⟩) (⟨#[]⟩) 0 0 0 0 0 0 (XAppeal.mk 0 0 0)).begunx)), .fl (.int .i64 ((XCase.mk (⟨#[]⟩) (⟨#[]⟩) (⟨#[]⟩) 0 0 0 0 0 0 (XAppeal.mk 0 0 0)).sincex)), .fl (.int .i64 ((XCase.mk (⟨#[]⟩) (⟨#[]⟩) (⟨#[]⟩) 0 0 0 0 0 0 (XAppeal.mk 0 0 0)).stagex)), .fl (.int .i64 ((XCase.mk (⟨#[]⟩) (⟨#[]⟩) (⟨#[]⟩) 0 0 0 0 0 0 (XAppeal.mk 0 0 0)).owedx)), .fl (.int .i64 ((XCase.mk (⟨#[]⟩) (⟨#[]⟩) (⟨#[]⟩) 0 0 0 0 0 0 (XAppeal.mk 0 0 0)).paidx)), .fl (.int .i64 ((XCase.mk (⟨#[]⟩) (⟨#[]⟩) (⟨#[]⟩) 0 0 0 0 0 0 (XAppeal.mk 0 0 0)).pausedx)), .fl (.int .i64 (((XCase.mk (⟨#[]⟩) (⟨#[]⟩) (⟨#[]⟩) 0 0 0 0 0 0 (XAppeal.mk 0 0 0)).appealx).statex)), .fl (.int .i64 (((XCase.mk (⟨#[]⟩) (⟨#[]⟩) (⟨#[]⟩) 0 0 0 0 0 0 (XAppeal.mk 0 0 0)).appealx).groundx)), .fl (.int .i64 (((XCase.mk (⟨#[]⟩) (⟨#[]⟩) (⟨#[]⟩) 0 0 0 0 0 0 (XAppeal.mk 0 0 0)).appealx).dayx))]) ⟨Cv.refl _, Cv.refl _, Cv.refl _, Cv.refl _, Cv.refl _, Cv.refl _, Cv.refl _, Cv.refl _, Cv.refl _, Cv.refl _, Cv.refl _, Cv.refl _, trivial⟩)) (.cons (.tmp rfl (.d _)) .nil)), ?_⟩
          have gg0 := bneb h4
          have gg1 := bneb h37
          have hv : veh p = true := by unfold veh; simp only [gg0, gg1, h1, h3, h4, h37, h40, h41, Bool.true_or, Bool.false_or, Bool.or_true, Bool.or_false, Bool.not_true, Bool.not_false, cond_true, cond_false, Bool.true_and, Bool.false_and, Bool.and_true, Bool.and_false]
          have hu : newE id p k c d = 5 := by unfold newE; simp only [hv, h1, h3, h4, h37, h40, h41, Bool.true_or, Bool.false_or, Bool.or_true, Bool.or_false, Bool.not_true, Bool.not_false, cond_true, cond_false, Bool.true_and, Bool.false_and, Bool.and_true, Bool.and_false]
          rw [newC_bad hu (by decide), hu]; rfl
        · skip
          have h42 := f_not h40
          refine a_skip ?_
          show A _ _ _ _ _ _ _
          refine a_seq ?_
          refine a_rseq ?_
          refine rg_put (d := 40) (v := .d (.fl (.int .i64 c))) rfl (og rfl (op_move rfl rfl rfl)) ?_
          refine rg_put (d := 41) (v := .d (.fl (.bool ((decide (c < 1)))))) rfl (og rfl (op_bin rfl rfl rfl (b_lss _ _ _ _) rfl)) ?_
          refine rg_put (d := 42) (v := .d (.fl (.bool ((decide (c < 1)))))) rfl (og rfl (op_move rfl rfl rfl)) ?_
          rcases fot ((decide (c < 1))) with h43 | h43
          · skip
            have h44 := f_dec h43
            refine rg_put (d := 43) (v := .d (.fl (.int .i64 c))) rfl (oy rfl rfl rfl h43 (op_move rfl rfl rfl)) ?_
            refine rg_put (d := 44) (v := .d (.fl (.bool ((decide (1125899906842624 < c)))))) rfl (oy rfl rfl rfl h43 (op_bin rfl rfl rfl (b_gtr _ _ _ _) rfl)) ?_
            refine rg_put (d := 45) (v := .d (.fl (.bool ((decide (1125899906842624 < c)))))) rfl (og rfl (op_pick rfl rfl (by rw [h43]; rfl) rfl)) ?_
            refine rg_done rfl ?_
            refine a_cond rfl (fun h45 => ?_) (fun h45 => ?_)
            · skip
              have h46 := t_dec h45
              refine a_rseq ?_
              refine rg_put (d := 46) (v := .d (.ag (eXCase ((XCase.mk (⟨#[]⟩) (⟨#[]⟩) (⟨#[]⟩) 0 0 0 0 0 0 (XAppeal.mk 0 0 0)))))) rfl (og rfl (of_eff (op_build rfl Tryd.underlying35 ti35 rfl (by kernel_rfl) (by kernel_rfl) (pl := #[(0, 1), (1, 1), (2, 1), (3, 1), (4, 1), (5, 1), (6, 1), (7, 1), (8, 1), (9, 3)]) (by kernel_rfl) .nil rfl) rfl)) ?_
              refine rg_sto (nw := [(101, .bx 35 ((eXCase ((XCase.mk (⟨#[]⟩) (⟨#[]⟩) (⟨#[]⟩) 0 0 0 0 0 0 (XAppeal.mk 0 0 0))))))]) rfl (og rfl (of_eff (s_store rfl rfl ti35 rfl rfl rfl rfl rfl rfl) rfl)) ?_
              refine rg_put (d := 11) (v := .d (.fl (.int .i64 13))) rfl (og rfl (op_assign rfl rfl rfl)) ?_
              refine rg_done rfl ?_
              refine a_ret ?_
              show ∃ ds, ResL _ _ _ ds ∧ RV.of ds = _
              refine ⟨[.ag [.fl (.string ((XCase.mk (⟨#[]⟩) (⟨#[]⟩) (⟨#[]⟩) 0 0 0 0 0 0 (XAppeal.mk 0 0 0)).idx)), .fl (.string ((XCase.mk (⟨#[]⟩) (⟨#[]⟩) (⟨#[]⟩) 0 0 0 0 0 0 (XAppeal.mk 0 0 0)).platex)), .fl (.string ((XCase.mk (⟨#[]⟩) (⟨#[]⟩) (⟨#[]⟩) 0 0 0 0 0 0 (XAppeal.mk 0 0 0)).keyx)), .fl (.int .i64 ((XCase.mk (⟨#[]⟩) (⟨#[]⟩) (⟨#[]⟩) 0 0 0 0 0 0 (XAppeal.mk 0 0 0)).begunx)), .fl (.int .i64 ((XCase.mk (⟨#[]⟩) (⟨#[]⟩) (⟨#[]⟩) 0 0 0 0 0 0 (XAppeal.mk 0 0 0)).sincex)), .fl (.int .i64 ((XCase.mk (⟨#[]⟩) (⟨#[]⟩) (⟨#[]⟩) 0 0 0 0 0 0 (XAppeal.mk 0 0 0)).stagex)), .fl (.int .i64 ((XCase.mk (⟨#[]⟩) (⟨#[]⟩) (⟨#[]⟩) 0 0 0 0 0 0 (XAppeal.mk 0 0 0)).owedx)), .fl (.int .i64 ((XCase.mk (⟨#[]⟩) (⟨#[]⟩) (⟨#[]⟩) 0 0 0 0 0 0 (XAppeal.mk 0 0 0)).paidx)), .fl (.int .i64 ((XCase.mk (⟨#[]⟩) (⟨#[]⟩) (⟨#[]⟩) 0 0 0 0 0 0 (XAppeal.mk 0 0 0)).pausedx)), .fl (.int .i64 (((XCase.mk (⟨#[]⟩) (⟨#[]⟩) (⟨#[]⟩) 0 0 0 0 0 0 (XAppeal.mk 0 0 0)).appealx).statex)), .fl (.int .i64 (((XCase.mk (⟨#[]⟩) (⟨#[]⟩) (⟨#[]⟩) 0 0 0 0 0 0 (XAppeal.mk 0 0 0)).appealx).groundx)), .fl (.int .i64 (((XCase.mk (⟨#[]⟩) (⟨#[]⟩) (⟨#[]⟩) 0 0 0 0 0 0 (XAppeal.mk 0 0 0)).appealx).dayx))], .fl (.int .i64 13)], (.cons (.cellT rfl rfl Tryd.underlying35 rfl ti35 rfl (Cv.ag (xs := [.fl (.string ((XCase.mk (⟨#[]⟩) (⟨#[]⟩) (⟨#[]⟩) 0 0 0 0 0 0 (XAppeal.mk 0 0 0)).idx)), .fl (.string ((XCase.mk (⟨#[]⟩) (⟨#[]⟩) (⟨#[]⟩) 0 0 0 0 0 0 (XAppeal.mk 0 0 0)).platex)), .fl (.string ((XCase.mk (⟨#[]⟩) (⟨#[]⟩) (⟨#[]⟩) 0 0 0 0 0 0 (XAppeal.mk 0 0 0)).keyx)), .fl (.int .i64 ((XCase.mk (⟨#[]⟩) (⟨#[]⟩) (⟨#[]⟩) 0 0 0 0 0 0 (XAppeal.mk 0 0 0)).begunx)), .fl (.int .i64 ((XCase.mk (⟨#[]⟩) (⟨#[]⟩) (⟨#[]⟩) 0 0 0 0 0 0 (XAppeal.mk 0 0 0)).sincex)), .fl (.int .i64 ((XCase.mk (⟨#[]⟩) (⟨#[]⟩) (⟨#[]⟩) 0 0 0 0 0 0 (XAppeal.mk 0 0 0)).stagex)), .fl (.int .i64 ((XCase.mk (⟨#[]⟩) (⟨#[]⟩) (⟨#[]⟩) 0 0 0 0 0 0 (XAppeal.mk 0 0 0)).owedx)), .fl (.int .i64 ((XCase.mk (⟨#[]⟩) (⟨#[]⟩) (⟨#[]⟩) 0 0 0 0 0 0 (XAppeal.mk 0 0 0)).paidx)), .fl (.int .i64 ((XCase.mk (⟨#[]⟩) (⟨#[]⟩) (⟨#[]⟩) 0 0 0 0 0 0 (XAppeal.mk 0 0 0)).pausedx)), .fl (.int .i64 (((XCase.mk (⟨#[]⟩) (⟨#[]⟩) (⟨#[]⟩) 0 0 0 0 0 0 (XAppeal.mk 0 0 0)).appealx).statex)), .fl (.int .i64 (((XCase.mk (⟨#[]⟩) (⟨#[]⟩) (⟨#[]⟩) 0 0 0 0 0 0 (XAppeal.mk 0 0 0)).appealx).groundx)), .fl (.int .i64 (((XCase.mk (⟨#[]⟩) (⟨#[]⟩) (⟨#[]⟩) 0 0 0 0 0 0 (XAppeal.mk 0 0 0)).appealx).dayx))]) (ys := [.fl (.string ((XCase.mk (⟨#[]⟩) (⟨#[]⟩) (⟨#[]⟩) 0 0 0 0 0 0 (XAppeal.mk 0 0 0)).idx)), .fl (.string ((XCase.mk (⟨#[]⟩) (⟨#[]⟩) (⟨#[]⟩) 0 0 0 0 0 0 (XAppeal.mk 0 0 0)).platex)), .fl (.string ((XCase.mk (⟨#[]⟩) (⟨#[]⟩) (⟨#[]⟩) 0 0 0 0 0 0 (XAppeal.mk 0 0 0)).keyx)), .fl (.int .i64 ((XCase.mk (⟨#[]⟩) (⟨#[]⟩) (⟨#[]⟩) 0 0 0 0 0 0 (XAppeal.mk 0 0 0)).begunx)), .fl (.int .i64 ((XCase.mk (⟨#[]⟩) (⟨#[]⟩) (⟨#[]⟩) 0 0 0 0 0 0 (XAppeal.mk 0 0 0)).sincex)), .fl (.int .i64 ((XCase.mk (⟨#[]⟩) (⟨#[]⟩) (⟨#[]⟩) 0 0 0 0 0 0 (XAppeal.mk 0 0 0)).stagex)), .fl (.int .i64 ((XCase.mk (⟨#[]⟩) (⟨#[]⟩) (⟨#[]⟩) 0 0 0 0 0 0 (XAppeal.mk 0 0 0)).owedx)), .fl (.int .i64 ((XCase.mk (⟨#[]⟩) (⟨#[]⟩) (⟨#[]⟩) 0 0 0 0 0 0 (XAppeal.mk 0 0 0)).paidx)), .fl (.int .i64 ((XCase.mk (⟨#[]⟩) (⟨#[]⟩) (⟨#[]⟩) 0 0 0 0 0 0 (XAppeal.mk 0 0 0)).pausedx)), .fl (.int .i64 (((XCase.mk (⟨#[]⟩) (⟨#[]⟩) (⟨#[]⟩) 0 0 0 0 0 0 (XAppeal.mk 0 0 0)).appealx).statex)), .fl (.int .i64 (((XCase.mk (⟨#[]⟩) (⟨#[]⟩) (⟨#[]⟩) 0 0 0 0 0 0 (XAppeal.mk 0 0 0)).appealx).groundx)), .fl (.int .i64 (((XCase.mk (⟨#[]⟩) (⟨#[]⟩) (⟨#[]⟩) 0 0 0 0 0 0 (XAppeal.mk 0 0 0)).appealx).dayx))]) ⟨Cv.refl _, Cv.refl _, Cv.refl _, Cv.refl _, Cv.refl _, Cv.refl _, Cv.refl _, Cv.refl _, Cv.refl _, Cv.refl _, Cv.refl _, Cv.refl _, trivial⟩)) (.cons (.tmp rfl (.d _)) .nil)), ?_⟩
              have gg0 := bneb h4
              have gg1 := bneb h37
              have hv : veh p = true := by unfold veh; simp only [gg0, gg1, h1, h3, h4, h37, h40, h42, h43, h45, Bool.true_or, Bool.false_or, Bool.or_true, Bool.or_false, Bool.not_true, Bool.not_false, cond_true, cond_false, Bool.true_and, Bool.false_and, Bool.and_true, Bool.and_false]
              have hu : newE id p k c d = 13 := by unfold newE; simp only [hv, h1, h3, h4, h37, h40, h42, h43, h45, Bool.true_or, Bool.false_or, Bool.or_true, Bool.or_false, Bool.not_true, Bool.not_false, cond_true, cond_false, Bool.true_and, Bool.false_and, Bool.and_true, Bool.and_false]
              rw [newC_bad hu (by decide), hu]; rfl
            · skip
              have h47 := f_dec h45
              refine a_skip ?_
              show A _ _ _ _ _ _ _
              refine a_seq ?_
              refine a_rseq ?_
              refine rg_put (d := 47) (v := .d (.fl (.int .i64 d))) rfl (og rfl (op_move rfl rfl rfl)) ?_
              refine rg_put (d := 48) (v := .d (.fl (.bool (isD d)))) rfl (og rfl (op_call rfl Tryd.func33 nm33 rfl (.cons rfl (.d _) .nil) (isDC33 d) rfl)) ?_
              refine rg_put (d := 49) (v := .d (.fl (.bool ((!(isD d)))))) rfl (og rfl (op_un rfl rfl (u_not _) rfl)) ?_
              refine rg_done rfl ?_
              refine a_cond rfl (fun h48 => ?_) (fun h48 => ?_)
              · skip
                have h49 := t_not h48
                refine a_rseq ?_
                refine rg_put (d := 50) (v := .d (.ag (eXCase ((XCase.mk (⟨#[]⟩) (⟨#[]⟩) (⟨#[]⟩) 0 0 0 0 0 0 (XAppeal.mk 0 0 0)))))) rfl (og rfl (of_eff (op_build rfl Tryd.underlying35 ti35 rfl (by kernel_rfl) (by kernel_rfl) (pl := #[(0, 1), (1, 1), (2, 1), (3, 1), (4, 1), (5, 1), (6, 1), (7, 1), (8, 1), (9, 3)]) (by kernel_rfl) .nil rfl) rfl)) ?_
                refine rg_sto (nw := [(101, .bx 35 ((eXCase ((XCase.mk (⟨#[]⟩) (⟨#[]⟩) (⟨#[]⟩) 0 0 0 0 0 0 (XAppeal.mk 0 0 0))))))]) rfl (og rfl (of_eff (s_store rfl rfl ti35 rfl rfl rfl rfl rfl rfl) rfl)) ?_
                refine rg_put (d := 11) (v := .d (.fl (.int .i64 12))) rfl (og rfl (op_assign rfl rfl rfl)) ?_
                refine rg_done rfl ?_
                refine a_ret ?_
                show ∃ ds, ResL _ _ _ ds ∧ RV.of ds = _
                refine ⟨[.ag [.fl (.string ((XCase.mk (⟨#[]⟩) (⟨#[]⟩) (⟨#[]⟩) 0 0 0 0 0 0 (XAppeal.mk 0 0 0)).idx)), .fl (.string ((XCase.mk (⟨#[]⟩) (⟨#[]⟩) (⟨#[]⟩) 0 0 0 0 0 0 (XAppeal.mk 0 0 0)).platex)), .fl (.string ((XCase.mk (⟨#[]⟩) (⟨#[]⟩) (⟨#[]⟩) 0 0 0 0 0 0 (XAppeal.mk 0 0 0)).keyx)), .fl (.int .i64 ((XCase.mk (⟨#[]⟩) (⟨#[]⟩) (⟨#[]⟩) 0 0 0 0 0 0 (XAppeal.mk 0 0 0)).begunx)), .fl (.int .i64 ((XCase.mk (⟨#[]⟩) (⟨#[]⟩) (⟨#[]⟩) 0 0 0 0 0 0 (XAppeal.mk 0 0 0)).sincex)), .fl (.int .i64 ((XCase.mk (⟨#[]⟩) (⟨#[]⟩) (⟨#[]⟩) 0 0 0 0 0 0 (XAppeal.mk 0 0 0)).stagex)), .fl (.int .i64 ((XCase.mk (⟨#[]⟩) (⟨#[]⟩) (⟨#[]⟩) 0 0 0 0 0 0 (XAppeal.mk 0 0 0)).owedx)), .fl (.int .i64 ((XCase.mk (⟨#[]⟩) (⟨#[]⟩) (⟨#[]⟩) 0 0 0 0 0 0 (XAppeal.mk 0 0 0)).paidx)), .fl (.int .i64 ((XCase.mk (⟨#[]⟩) (⟨#[]⟩) (⟨#[]⟩) 0 0 0 0 0 0 (XAppeal.mk 0 0 0)).pausedx)), .fl (.int .i64 (((XCase.mk (⟨#[]⟩) (⟨#[]⟩) (⟨#[]⟩) 0 0 0 0 0 0 (XAppeal.mk 0 0 0)).appealx).statex)), .fl (.int .i64 (((XCase.mk (⟨#[]⟩) (⟨#[]⟩) (⟨#[]⟩) 0 0 0 0 0 0 (XAppeal.mk 0 0 0)).appealx).groundx)), .fl (.int .i64 (((XCase.mk (⟨#[]⟩) (⟨#[]⟩) (⟨#[]⟩) 0 0 0 0 0 0 (XAppeal.mk 0 0 0)).appealx).dayx))], .fl (.int .i64 12)], (.cons (.cellT rfl rfl Tryd.underlying35 rfl ti35 rfl (Cv.ag (xs := [.fl (.string ((XCase.mk (⟨#[]⟩) (⟨#[]⟩) (⟨#[]⟩) 0 0 0 0 0 0 (XAppeal.mk 0 0 0)).idx)), .fl (.string ((XCase.mk (⟨#[]⟩) (⟨#[]⟩) (⟨#[]⟩) 0 0 0 0 0 0 (XAppeal.mk 0 0 0)).platex)), .fl (.string ((XCase.mk (⟨#[]⟩) (⟨#[]⟩) (⟨#[]⟩) 0 0 0 0 0 0 (XAppeal.mk 0 0 0)).keyx)), .fl (.int .i64 ((XCase.mk (⟨#[]⟩) (⟨#[]⟩) (⟨#[]⟩) 0 0 0 0 0 0 (XAppeal.mk 0 0 0)).begunx)), .fl (.int .i64 ((XCase.mk (⟨#[]⟩) (⟨#[]⟩) (⟨#[]⟩) 0 0 0 0 0 0 (XAppeal.mk 0 0 0)).sincex)), .fl (.int .i64 ((XCase.mk (⟨#[]⟩) (⟨#[]⟩) (⟨#[]⟩) 0 0 0 0 0 0 (XAppeal.mk 0 0 0)).stagex)), .fl (.int .i64 ((XCase.mk (⟨#[]⟩) (⟨#[]⟩) (⟨#[]⟩) 0 0 0 0 0 0 (XAppeal.mk 0 0 0)).owedx)), .fl (.int .i64 ((XCase.mk (⟨#[]⟩) (⟨#[]⟩) (⟨#[]⟩) 0 0 0 0 0 0 (XAppeal.mk 0 0 0)).paidx)), .fl (.int .i64 ((XCase.mk (⟨#[]⟩) (⟨#[]⟩) (⟨#[]⟩) 0 0 0 0 0 0 (XAppeal.mk 0 0 0)).pausedx)), .fl (.int .i64 (((XCase.mk (⟨#[]⟩) (⟨#[]⟩) (⟨#[]⟩) 0 0 0 0 0 0 (XAppeal.mk 0 0 0)).appealx).statex)), .fl (.int .i64 (((XCase.mk (⟨#[]⟩) (⟨#[]⟩) (⟨#[]⟩) 0 0 0 0 0 0 (XAppeal.mk 0 0 0)).appealx).groundx)), .fl (.int .i64 (((XCase.mk (⟨#[]⟩) (⟨#[]⟩) (⟨#[]⟩) 0 0 0 0 0 0 (XAppeal.mk 0 0 0)).appealx).dayx))]) (ys := [.fl (.string ((XCase.mk (⟨#[]⟩) (⟨#[]⟩) (⟨#[]⟩) 0 0 0 0 0 0 (XAppeal.mk 0 0 0)).idx)), .fl (.string ((XCase.mk (⟨#[]⟩) (⟨#[]⟩) (⟨#[]⟩) 0 0 0 0 0 0 (XAppeal.mk 0 0 0)).platex)), .fl (.string ((XCase.mk (⟨#[]⟩) (⟨#[]⟩) (⟨#[]⟩) 0 0 0 0 0 0 (XAppeal.mk 0 0 0)).keyx)), .fl (.int .i64 ((XCase.mk (⟨#[]⟩) (⟨#[]⟩) (⟨#[]⟩) 0 0 0 0 0 0 (XAppeal.mk 0 0 0)).begunx)), .fl (.int .i64 ((XCase.mk (⟨#[]⟩) (⟨#[]⟩) (⟨#[]⟩) 0 0 0 0 0 0 (XAppeal.mk 0 0 0)).sincex)), .fl (.int .i64 ((XCase.mk (⟨#[]⟩) (⟨#[]⟩) (⟨#[]⟩) 0 0 0 0 0 0 (XAppeal.mk 0 0 0)).stagex)), .fl (.int .i64 ((XCase.mk (⟨#[]⟩) (⟨#[]⟩) (⟨#[]⟩) 0 0 0 0 0 0 (XAppeal.mk 0 0 0)).owedx)), .fl (.int .i64 ((XCase.mk (⟨#[]⟩) (⟨#[]⟩) (⟨#[]⟩) 0 0 0 0 0 0 (XAppeal.mk 0 0 0)).paidx)), .fl (.int .i64 ((XCase.mk (⟨#[]⟩) (⟨#[]⟩) (⟨#[]⟩) 0 0 0 0 0 0 (XAppeal.mk 0 0 0)).pausedx)), .fl (.int .i64 (((XCase.mk (⟨#[]⟩) (⟨#[]⟩) (⟨#[]⟩) 0 0 0 0 0 0 (XAppeal.mk 0 0 0)).appealx).statex)), .fl (.int .i64 (((XCase.mk (⟨#[]⟩) (⟨#[]⟩) (⟨#[]⟩) 0 0 0 0 0 0 (XAppeal.mk 0 0 0)).appealx).groundx)), .fl (.int .i64 (((XCase.mk (⟨#[]⟩) (⟨#[]⟩) (⟨#[]⟩) 0 0 0 0 0 0 (XAppeal.mk 0 0 0)).appealx).dayx))]) ⟨Cv.refl _, Cv.refl _, Cv.refl _, Cv.refl _, Cv.refl _, Cv.refl _, Cv.refl _, Cv.refl _, Cv.refl _, Cv.refl _, Cv.refl _, Cv.refl _, trivial⟩)) (.cons (.tmp rfl (.d _)) .nil)), ?_⟩
                have gg0 := bneb h4
                have gg1 := bneb h37
                have hv : veh p = true := by unfold veh; simp only [gg0, gg1, h1, h3, h4, h37, h40, h42, h43, h45, h48, h49, Bool.true_or, Bool.false_or, Bool.or_true, Bool.or_false, Bool.not_true, Bool.not_false, cond_true, cond_false, Bool.true_and, Bool.false_and, Bool.and_true, Bool.and_false]
                have hu : newE id p k c d = 12 := by unfold newE; simp only [hv, h1, h3, h4, h37, h40, h42, h43, h45, h48, h49, Bool.true_or, Bool.false_or, Bool.or_true, Bool.or_false, Bool.not_true, Bool.not_false, cond_true, cond_false, Bool.true_and, Bool.false_and, Bool.and_true, Bool.and_false]
                rw [newC_bad hu (by decide), hu]; rfl
              · skip
                have h50 := f_not h48
                refine a_skip ?_
                show A _ _ _ _ _ _ _
                refine a_rseq ?_
                refine rg_put (d := 51) (v := .d (.fl (.string id))) rfl (og rfl (op_move rfl rfl rfl)) ?_
                refine rg_put (d := 52) (v := .d (.fl (.string p))) rfl (og rfl (op_move rfl rfl rfl)) ?_
                refine rg_put (d := 53) (v := .d (.fl (.string k))) rfl (og rfl (op_move rfl rfl rfl)) ?_
                refine rg_put (d := 54) (v := .d (.fl (.int .i64 d))) rfl (og rfl (op_move rfl rfl rfl)) ?_
                refine rg_put (d := 55) (v := .d (.fl (.int .i64 d))) rfl (og rfl (op_move rfl rfl rfl)) ?_
                refine rg_put (d := 56) (v := .d (.fl (.int .i64 c))) rfl (og rfl (op_move rfl rfl rfl)) ?_
                refine rg_put (d := 57) (v := .d (.ag (eXCase ((XCase.mk id p k d d 1 c 0 0 (XAppeal.mk 0 0 0)))))) rfl (og rfl (of_eff (op_build rfl Tryd.underlying35 ti35 rfl (by kernel_rfl) (by kernel_rfl) (pl := #[(0, 1), (1, 1), (2, 1), (3, 1), (4, 1), (5, 1), (6, 1), (7, 1), (8, 1), (9, 3)]) (by kernel_rfl) (.cons rfl rfl (.d _) rfl rfl rfl (.cons rfl rfl (.d _) rfl rfl rfl (.cons rfl rfl (.d _) rfl rfl rfl (.cons rfl rfl (.d _) rfl rfl rfl (.cons rfl rfl (.d _) rfl rfl rfl (.cons rfl rfl (.d _) rfl rfl rfl (.cons rfl rfl (.d _) rfl rfl rfl .nil))))))) rfl) rfl)) ?_
                refine rg_sto (nw := [(101, .bx 35 ((eXCase ((XCase.mk id p k d d 1 c 0 0 (XAppeal.mk 0 0 0))))))]) rfl (og rfl (of_eff (s_store rfl rfl ti35 rfl rfl rfl rfl rfl rfl) rfl)) ?_
                refine rg_put (d := 11) (v := .d (.fl (.int .i64 0))) rfl (og rfl (op_assign rfl rfl rfl)) ?_
                refine rg_done rfl ?_
                refine a_ret ?_
                show ∃ ds, ResL _ _ _ ds ∧ RV.of ds = _
                refine ⟨[.ag [.fl (.string ((XCase.mk id p k d d 1 c 0 0 (XAppeal.mk 0 0 0)).idx)), .fl (.string ((XCase.mk id p k d d 1 c 0 0 (XAppeal.mk 0 0 0)).platex)), .fl (.string ((XCase.mk id p k d d 1 c 0 0 (XAppeal.mk 0 0 0)).keyx)), .fl (.int .i64 ((XCase.mk id p k d d 1 c 0 0 (XAppeal.mk 0 0 0)).begunx)), .fl (.int .i64 ((XCase.mk id p k d d 1 c 0 0 (XAppeal.mk 0 0 0)).sincex)), .fl (.int .i64 ((XCase.mk id p k d d 1 c 0 0 (XAppeal.mk 0 0 0)).stagex)), .fl (.int .i64 ((XCase.mk id p k d d 1 c 0 0 (XAppeal.mk 0 0 0)).owedx)), .fl (.int .i64 ((XCase.mk id p k d d 1 c 0 0 (XAppeal.mk 0 0 0)).paidx)), .fl (.int .i64 ((XCase.mk id p k d d 1 c 0 0 (XAppeal.mk 0 0 0)).pausedx)), .fl (.int .i64 (((XCase.mk id p k d d 1 c 0 0 (XAppeal.mk 0 0 0)).appealx).statex)), .fl (.int .i64 (((XCase.mk id p k d d 1 c 0 0 (XAppeal.mk 0 0 0)).appealx).groundx)), .fl (.int .i64 (((XCase.mk id p k d d 1 c 0 0 (XAppeal.mk 0 0 0)).appealx).dayx))], .fl (.int .i64 0)], (.cons (.cellT rfl rfl Tryd.underlying35 rfl ti35 rfl (Cv.ag (xs := [.fl (.string ((XCase.mk id p k d d 1 c 0 0 (XAppeal.mk 0 0 0)).idx)), .fl (.string ((XCase.mk id p k d d 1 c 0 0 (XAppeal.mk 0 0 0)).platex)), .fl (.string ((XCase.mk id p k d d 1 c 0 0 (XAppeal.mk 0 0 0)).keyx)), .fl (.int .i64 ((XCase.mk id p k d d 1 c 0 0 (XAppeal.mk 0 0 0)).begunx)), .fl (.int .i64 ((XCase.mk id p k d d 1 c 0 0 (XAppeal.mk 0 0 0)).sincex)), .fl (.int .i64 ((XCase.mk id p k d d 1 c 0 0 (XAppeal.mk 0 0 0)).stagex)), .fl (.int .i64 ((XCase.mk id p k d d 1 c 0 0 (XAppeal.mk 0 0 0)).owedx)), .fl (.int .i64 ((XCase.mk id p k d d 1 c 0 0 (XAppeal.mk 0 0 0)).paidx)), .fl (.int .i64 ((XCase.mk id p k d d 1 c 0 0 (XAppeal.mk 0 0 0)).pausedx)), .fl (.int .i64 (((XCase.mk id p k d d 1 c 0 0 (XAppeal.mk 0 0 0)).appealx).statex)), .fl (.int .i64 (((XCase.mk id p k d d 1 c 0 0 (XAppeal.mk 0 0 0)).appealx).groundx)), .fl (.int .i64 (((XCase.mk id p k d d 1 c 0 0 (XAppeal.mk 0 0 0)).appealx).dayx))]) (ys := [.fl (.string ((XCase.mk id p k d d 1 c 0 0 (XAppeal.mk 0 0 0)).idx)), .fl (.string ((XCase.mk id p k d d 1 c 0 0 (XAppeal.mk 0 0 0)).platex)), .fl (.string ((XCase.mk id p k d d 1 c 0 0 (XAppeal.mk 0 0 0)).keyx)), .fl (.int .i64 ((XCase.mk id p k d d 1 c 0 0 (XAppeal.mk 0 0 0)).begunx)), .fl (.int .i64 ((XCase.mk id p k d d 1 c 0 0 (XAppeal.mk 0 0 0)).sincex)), .fl (.int .i64 ((XCase.mk id p k d d 1 c 0 0 (XAppeal.mk 0 0 0)).stagex)), .fl (.int .i64 ((XCase.mk id p k d d 1 c 0 0 (XAppeal.mk 0 0 0)).owedx)), .fl (.int .i64 ((XCase.mk id p k d d 1 c 0 0 (XAppeal.mk 0 0 0)).paidx)), .fl (.int .i64 ((XCase.mk id p k d d 1 c 0 0 (XAppeal.mk 0 0 0)).pausedx)), .fl (.int .i64 (((XCase.mk id p k d d 1 c 0 0 (XAppeal.mk 0 0 0)).appealx).statex)), .fl (.int .i64 (((XCase.mk id p k d d 1 c 0 0 (XAppeal.mk 0 0 0)).appealx).groundx)), .fl (.int .i64 (((XCase.mk id p k d d 1 c 0 0 (XAppeal.mk 0 0 0)).appealx).dayx))]) ⟨Cv.refl _, Cv.refl _, Cv.refl _, Cv.refl _, Cv.refl _, Cv.refl _, Cv.refl _, Cv.refl _, Cv.refl _, Cv.refl _, Cv.refl _, Cv.refl _, trivial⟩)) (.cons (.tmp rfl (.d _)) .nil)), ?_⟩
                have gg0 := bneb h4
                have gg1 := bneb h37
                have hv : veh p = true := by unfold veh; simp only [gg0, gg1, h1, h3, h4, h37, h40, h42, h43, h45, h48, h50, Bool.true_or, Bool.false_or, Bool.or_true, Bool.or_false, Bool.not_true, Bool.not_false, cond_true, cond_false, Bool.true_and, Bool.false_and, Bool.and_true, Bool.and_false]
                have hu : newE id p k c d = 0 := by unfold newE; simp only [hv, h1, h3, h4, h37, h40, h42, h43, h45, h48, h50, Bool.true_or, Bool.false_or, Bool.or_true, Bool.or_false, Bool.not_true, Bool.not_false, cond_true, cond_false, Bool.true_and, Bool.false_and, Bool.and_true, Bool.and_false]
                rw [newC_ok hu, hu]; rfl
          · skip
            have h51 := t_dec h43
            refine rg_put (d := 43) (v := .d (.fl undef)) rfl (on rfl rfl rfl h43) ?_
            refine rg_put (d := 44) (v := .d (.fl undef)) rfl (on rfl rfl rfl h43) ?_
            refine rg_put (d := 45) (v := .d (.fl (.bool true))) rfl (og rfl (op_pick rfl rfl (by rw [h43]; rfl) rfl)) ?_
            refine rg_done rfl ?_
            refine a_condK rfl rfl ?_
            refine a_rseq ?_
            refine rg_put (d := 46) (v := .d (.ag (eXCase ((XCase.mk (⟨#[]⟩) (⟨#[]⟩) (⟨#[]⟩) 0 0 0 0 0 0 (XAppeal.mk 0 0 0)))))) rfl (og rfl (of_eff (op_build rfl Tryd.underlying35 ti35 rfl (by kernel_rfl) (by kernel_rfl) (pl := #[(0, 1), (1, 1), (2, 1), (3, 1), (4, 1), (5, 1), (6, 1), (7, 1), (8, 1), (9, 3)]) (by kernel_rfl) .nil rfl) rfl)) ?_
            refine rg_sto (nw := [(101, .bx 35 ((eXCase ((XCase.mk (⟨#[]⟩) (⟨#[]⟩) (⟨#[]⟩) 0 0 0 0 0 0 (XAppeal.mk 0 0 0))))))]) rfl (og rfl (of_eff (s_store rfl rfl ti35 rfl rfl rfl rfl rfl rfl) rfl)) ?_
            refine rg_put (d := 11) (v := .d (.fl (.int .i64 13))) rfl (og rfl (op_assign rfl rfl rfl)) ?_
            refine rg_done rfl ?_
            refine a_ret ?_
            show ∃ ds, ResL _ _ _ ds ∧ RV.of ds = _
            refine ⟨[.ag [.fl (.string ((XCase.mk (⟨#[]⟩) (⟨#[]⟩) (⟨#[]⟩) 0 0 0 0 0 0 (XAppeal.mk 0 0 0)).idx)), .fl (.string ((XCase.mk (⟨#[]⟩) (⟨#[]⟩) (⟨#[]⟩) 0 0 0 0 0 0 (XAppeal.mk 0 0 0)).platex)), .fl (.string ((XCase.mk (⟨#[]⟩) (⟨#[]⟩) (⟨#[]⟩) 0 0 0 0 0 0 (XAppeal.mk 0 0 0)).keyx)), .fl (.int .i64 ((XCase.mk (⟨#[]⟩) (⟨#[]⟩) (⟨#[]⟩) 0 0 0 0 0 0 (XAppeal.mk 0 0 0)).begunx)), .fl (.int .i64 ((XCase.mk (⟨#[]⟩) (⟨#[]⟩) (⟨#[]⟩) 0 0 0 0 0 0 (XAppeal.mk 0 0 0)).sincex)), .fl (.int .i64 ((XCase.mk (⟨#[]⟩) (⟨#[]⟩) (⟨#[]⟩) 0 0 0 0 0 0 (XAppeal.mk 0 0 0)).stagex)), .fl (.int .i64 ((XCase.mk (⟨#[]⟩) (⟨#[]⟩) (⟨#[]⟩) 0 0 0 0 0 0 (XAppeal.mk 0 0 0)).owedx)), .fl (.int .i64 ((XCase.mk (⟨#[]⟩) (⟨#[]⟩) (⟨#[]⟩) 0 0 0 0 0 0 (XAppeal.mk 0 0 0)).paidx)), .fl (.int .i64 ((XCase.mk (⟨#[]⟩) (⟨#[]⟩) (⟨#[]⟩) 0 0 0 0 0 0 (XAppeal.mk 0 0 0)).pausedx)), .fl (.int .i64 (((XCase.mk (⟨#[]⟩) (⟨#[]⟩) (⟨#[]⟩) 0 0 0 0 0 0 (XAppeal.mk 0 0 0)).appealx).statex)), .fl (.int .i64 (((XCase.mk (⟨#[]⟩) (⟨#[]⟩) (⟨#[]⟩) 0 0 0 0 0 0 (XAppeal.mk 0 0 0)).appealx).groundx)), .fl (.int .i64 (((XCase.mk (⟨#[]⟩) (⟨#[]⟩) (⟨#[]⟩) 0 0 0 0 0 0 (XAppeal.mk 0 0 0)).appealx).dayx))], .fl (.int .i64 13)], (.cons (.cellT rfl rfl Tryd.underlying35 rfl ti35 rfl (Cv.ag (xs := [.fl (.string ((XCase.mk (⟨#[]⟩) (⟨#[]⟩) (⟨#[]⟩) 0 0 0 0 0 0 (XAppeal.mk 0 0 0)).idx)), .fl (.string ((XCase.mk (⟨#[]⟩) (⟨#[]⟩) (⟨#[]⟩) 0 0 0 0 0 0 (XAppeal.mk 0 0 0)).platex)), .fl (.string ((XCase.mk (⟨#[]⟩) (⟨#[]⟩) (⟨#[]⟩) 0 0 0 0 0 0 (XAppeal.mk 0 0 0)).keyx)), .fl (.int .i64 ((XCase.mk (⟨#[]⟩) (⟨#[]⟩) (⟨#[]⟩) 0 0 0 0 0 0 (XAppeal.mk 0 0 0)).begunx)), .fl (.int .i64 ((XCase.mk (⟨#[]⟩) (⟨#[]⟩) (⟨#[]⟩) 0 0 0 0 0 0 (XAppeal.mk 0 0 0)).sincex)), .fl (.int .i64 ((XCase.mk (⟨#[]⟩) (⟨#[]⟩) (⟨#[]⟩) 0 0 0 0 0 0 (XAppeal.mk 0 0 0)).stagex)), .fl (.int .i64 ((XCase.mk (⟨#[]⟩) (⟨#[]⟩) (⟨#[]⟩) 0 0 0 0 0 0 (XAppeal.mk 0 0 0)).owedx)), .fl (.int .i64 ((XCase.mk (⟨#[]⟩) (⟨#[]⟩) (⟨#[]⟩) 0 0 0 0 0 0 (XAppeal.mk 0 0 0)).paidx)), .fl (.int .i64 ((XCase.mk (⟨#[]⟩) (⟨#[]⟩) (⟨#[]⟩) 0 0 0 0 0 0 (XAppeal.mk 0 0 0)).pausedx)), .fl (.int .i64 (((XCase.mk (⟨#[]⟩) (⟨#[]⟩) (⟨#[]⟩) 0 0 0 0 0 0 (XAppeal.mk 0 0 0)).appealx).statex)), .fl (.int .i64 (((XCase.mk (⟨#[]⟩) (⟨#[]⟩) (⟨#[]⟩) 0 0 0 0 0 0 (XAppeal.mk 0 0 0)).appealx).groundx)), .fl (.int .i64 (((XCase.mk (⟨#[]⟩) (⟨#[]⟩) (⟨#[]⟩) 0 0 0 0 0 0 (XAppeal.mk 0 0 0)).appealx).dayx))]) (ys := [.fl (.string ((XCase.mk (⟨#[]⟩) (⟨#[]⟩) (⟨#[]⟩) 0 0 0 0 0 0 (XAppeal.mk 0 0 0)).idx)), .fl (.string ((XCase.mk (⟨#[]⟩) (⟨#[]⟩) (⟨#[]⟩) 0 0 0 0 0 0 (XAppeal.mk 0 0 0)).platex)), .fl (.string ((XCase.mk (⟨#[]⟩) (⟨#[]⟩) (⟨#[]⟩) 0 0 0 0 0 0 (XAppeal.mk 0 0 0)).keyx)), .fl (.int .i64 ((XCase.mk (⟨#[]⟩) (⟨#[]⟩) (⟨#[]⟩) 0 0 0 0 0 0 (XAppeal.mk 0 0 0)).begunx)), .fl (.int .i64 ((XCase.mk (⟨#[]⟩) (⟨#[]⟩) (⟨#[]⟩) 0 0 0 0 0 0 (XAppeal.mk 0 0 0)).sincex)), .fl (.int .i64 ((XCase.mk (⟨#[]⟩) (⟨#[]⟩) (⟨#[]⟩) 0 0 0 0 0 0 (XAppeal.mk 0 0 0)).stagex)), .fl (.int .i64 ((XCase.mk (⟨#[]⟩) (⟨#[]⟩) (⟨#[]⟩) 0 0 0 0 0 0 (XAppeal.mk 0 0 0)).owedx)), .fl (.int .i64 ((XCase.mk (⟨#[]⟩) (⟨#[]⟩) (⟨#[]⟩) 0 0 0 0 0 0 (XAppeal.mk 0 0 0)).paidx)), .fl (.int .i64 ((XCase.mk (⟨#[]⟩) (⟨#[]⟩) (⟨#[]⟩) 0 0 0 0 0 0 (XAppeal.mk 0 0 0)).pausedx)), .fl (.int .i64 (((XCase.mk (⟨#[]⟩) (⟨#[]⟩) (⟨#[]⟩) 0 0 0 0 0 0 (XAppeal.mk 0 0 0)).appealx).statex)), .fl (.int .i64 (((XCase.mk (⟨#[]⟩) (⟨#[]⟩) (⟨#[]⟩) 0 0 0 0 0 0 (XAppeal.mk 0 0 0)).appealx).groundx)), .fl (.int .i64 (((XCase.mk (⟨#[]⟩) (⟨#[]⟩) (⟨#[]⟩) 0 0 0 0 0 0 (XAppeal.mk 0 0 0)).appealx).dayx))]) ⟨Cv.refl _, Cv.refl _, Cv.refl _, Cv.refl _, Cv.refl _, Cv.refl _, Cv.refl _, Cv.refl _, Cv.refl _, Cv.refl _, Cv.refl _, Cv.refl _, trivial⟩)) (.cons (.tmp rfl (.d _)) .nil)), ?_⟩
            have gg0 := bneb h4
            have gg1 := bneb h37
            have hv : veh p = true := by unfold veh; simp only [gg0, gg1, h1, h3, h4, h37, h40, h42, h43, Bool.true_or, Bool.false_or, Bool.or_true, Bool.or_false, Bool.not_true, Bool.not_false, cond_true, cond_false, Bool.true_and, Bool.false_and, Bool.and_true, Bool.and_false]
            have hu : newE id p k c d = 13 := by unfold newE; simp only [hv, h1, h3, h4, h37, h40, h42, h43, Bool.true_or, Bool.false_or, Bool.or_true, Bool.or_false, Bool.not_true, Bool.not_false, cond_true, cond_false, Bool.true_and, Bool.false_and, Bool.and_true, Bool.and_false]
            rw [newC_bad hu (by decide), hu]; rfl
set_option maxHeartbeats 4000000 in
set_option maxRecDepth 100000 in
theorem sameC (x : XCase) : Ctr Tryd.prog 13 [.ag (eXCase x), .ag (eXCase x)] (.d (.fl (.bool true))) := by
  refine ctr (n := 93) (rs := #[.tmp 4]) (L := [(0, .d (.ag (eXCase x))), (1, .d (.ag (eXCase x)))]) Tryd.func13 rfl rfl rfl rfl rfl (fun w0 U0 => ?_)
  refine a_rseq ?_
  refine rg_nam (d := 2) (v := .pt 101 0) (m := 101) (nw := [(101, .bx 35 (eXCase x))]) rfl (og rfl (of_eff (op_box 101 rfl rfl rfl rfl) rfl)) rfl ?_
  refine rg_nam (d := 3) (v := .pt 102 0) (m := 102) (nw := [(102, .bx 35 (eXCase x))]) rfl (og rfl (of_eff (op_box 102 rfl rfl rfl rfl) rfl)) rfl ?_
  refine rg_put (d := 4) (v := .d (.fl (.bool false))) rfl (og rfl (op_assign rfl rfl rfl)) ?_
  refine rg_done rfl ?_
  refine a_rseq ?_
  refine rg_put (d := 5) (v := .pt 101 0) rfl (og rfl (of_eff (s_field_pt rfl Tryd.underlying35 rfl ti9 rfl rfl rfl) rfl)) ?_
  refine rg_put (d := 6) (v := .d (.fl (.string x.idx))) rfl (og rfl (op_load_pt rfl Tryd.underlying9 rfl rfl rfl rfl rfl)) ?_
  refine rg_put (d := 7) (v := .pt 102 0) rfl (og rfl (of_eff (s_field_pt rfl Tryd.underlying35 rfl ti9 rfl rfl rfl) rfl)) ?_
  refine rg_put (d := 8) (v := .d (.fl (.string x.idx))) rfl (og rfl (op_load_pt rfl Tryd.underlying9 rfl rfl rfl rfl rfl)) ?_
  refine rg_put (d := 9) (v := .d (.fl (.bool (sEq x.idx x.idx)))) rfl (og rfl (op_bin rfl rfl rfl (b_seq _ _ _) rfl)) ?_
  refine rg_put (d := 10) (v := .d (.fl (.bool (sEq x.idx x.idx)))) rfl (og rfl (op_move rfl rfl rfl)) ?_
  refine rg_put (d := 11) (v := .pt 101 1) rfl (oy rfl rfl rfl (eq_self_s _) (of_eff (s_field_pt rfl Tryd.underlying35 rfl ti9 rfl rfl rfl) rfl)) ?_
  refine rg_put (d := 12) (v := .d (.fl (.string x.platex))) rfl (oy rfl rfl rfl (eq_self_s _) (op_load_pt rfl Tryd.underlying9 rfl rfl rfl rfl rfl)) ?_
  refine rg_put (d := 13) (v := .pt 102 1) rfl (oy rfl rfl rfl (eq_self_s _) (of_eff (s_field_pt rfl Tryd.underlying35 rfl ti9 rfl rfl rfl) rfl)) ?_
  refine rg_put (d := 14) (v := .d (.fl (.string x.platex))) rfl (oy rfl rfl rfl (eq_self_s _) (op_load_pt rfl Tryd.underlying9 rfl rfl rfl rfl rfl)) ?_
  refine rg_put (d := 15) (v := .d (.fl (.bool (sEq x.platex x.platex)))) rfl (oy rfl rfl rfl (eq_self_s _) (op_bin rfl rfl rfl (b_seq _ _ _) rfl)) ?_
  refine rg_put (d := 16) (v := .d (.fl (.bool (sEq x.platex x.platex)))) rfl (og rfl (op_pick rfl rfl (by rw [(eq_self_s _)]; rfl) rfl)) ?_
  refine rg_put (d := 17) (v := .d (.fl (.bool (sEq x.platex x.platex)))) rfl (og rfl (op_move rfl rfl rfl)) ?_
  refine rg_put (d := 18) (v := .pt 101 2) rfl (oy rfl rfl rfl (eq_self_s _) (of_eff (s_field_pt rfl Tryd.underlying35 rfl ti9 rfl rfl rfl) rfl)) ?_
  refine rg_put (d := 19) (v := .d (.fl (.string x.keyx))) rfl (oy rfl rfl rfl (eq_self_s _) (op_load_pt rfl Tryd.underlying9 rfl rfl rfl rfl rfl)) ?_
  refine rg_put (d := 20) (v := .pt 102 2) rfl (oy rfl rfl rfl (eq_self_s _) (of_eff (s_field_pt rfl Tryd.underlying35 rfl ti9 rfl rfl rfl) rfl)) ?_
  refine rg_put (d := 21) (v := .d (.fl (.string x.keyx))) rfl (oy rfl rfl rfl (eq_self_s _) (op_load_pt rfl Tryd.underlying9 rfl rfl rfl rfl rfl)) ?_
  refine rg_put (d := 22) (v := .d (.fl (.bool (sEq x.keyx x.keyx)))) rfl (oy rfl rfl rfl (eq_self_s _) (op_bin rfl rfl rfl (b_seq _ _ _) rfl)) ?_
  refine rg_put (d := 23) (v := .d (.fl (.bool (sEq x.keyx x.keyx)))) rfl (og rfl (op_pick rfl rfl (by rw [(eq_self_s _)]; rfl) rfl)) ?_
  refine rg_put (d := 24) (v := .d (.fl (.bool (sEq x.keyx x.keyx)))) rfl (og rfl (op_move rfl rfl rfl)) ?_
  refine rg_put (d := 25) (v := .pt 101 3) rfl (oy rfl rfl rfl (eq_self_s _) (of_eff (s_field_pt rfl Tryd.underlying35 rfl ti3 rfl rfl rfl) rfl)) ?_
  refine rg_put (d := 26) (v := .d (.fl (.int .i64 x.begunx))) rfl (oy rfl rfl rfl (eq_self_s _) (op_load_pt rfl Tryd.underlying3 rfl rfl rfl rfl rfl)) ?_
  refine rg_put (d := 27) (v := .pt 102 3) rfl (oy rfl rfl rfl (eq_self_s _) (of_eff (s_field_pt rfl Tryd.underlying35 rfl ti3 rfl rfl rfl) rfl)) ?_
  refine rg_put (d := 28) (v := .d (.fl (.int .i64 x.begunx))) rfl (oy rfl rfl rfl (eq_self_s _) (op_load_pt rfl Tryd.underlying3 rfl rfl rfl rfl rfl)) ?_
  refine rg_put (d := 29) (v := .d (.fl (.bool (x.begunx == x.begunx)))) rfl (oy rfl rfl rfl (eq_self_s _) (op_bin rfl rfl rfl (b_eql _ _ _ _) rfl)) ?_
  refine rg_put (d := 30) (v := .d (.fl (.bool (x.begunx == x.begunx)))) rfl (og rfl (op_pick rfl rfl (by rw [(eq_self_s _)]; rfl) rfl)) ?_
  refine rg_put (d := 31) (v := .d (.fl (.bool (x.begunx == x.begunx)))) rfl (og rfl (op_move rfl rfl rfl)) ?_
  refine rg_put (d := 32) (v := .pt 101 4) rfl (oy rfl rfl rfl (beq_self_eq_true _) (of_eff (s_field_pt rfl Tryd.underlying35 rfl ti3 rfl rfl rfl) rfl)) ?_
  refine rg_put (d := 33) (v := .d (.fl (.int .i64 x.sincex))) rfl (oy rfl rfl rfl (beq_self_eq_true _) (op_load_pt rfl Tryd.underlying3 rfl rfl rfl rfl rfl)) ?_
  refine rg_put (d := 34) (v := .pt 102 4) rfl (oy rfl rfl rfl (beq_self_eq_true _) (of_eff (s_field_pt rfl Tryd.underlying35 rfl ti3 rfl rfl rfl) rfl)) ?_
  refine rg_put (d := 35) (v := .d (.fl (.int .i64 x.sincex))) rfl (oy rfl rfl rfl (beq_self_eq_true _) (op_load_pt rfl Tryd.underlying3 rfl rfl rfl rfl rfl)) ?_
  refine rg_put (d := 36) (v := .d (.fl (.bool (x.sincex == x.sincex)))) rfl (oy rfl rfl rfl (beq_self_eq_true _) (op_bin rfl rfl rfl (b_eql _ _ _ _) rfl)) ?_
  refine rg_put (d := 37) (v := .d (.fl (.bool (x.sincex == x.sincex)))) rfl (og rfl (op_pick rfl rfl (by rw [(beq_self_eq_true _)]; rfl) rfl)) ?_
  refine rg_put (d := 38) (v := .d (.fl (.bool (x.sincex == x.sincex)))) rfl (og rfl (op_move rfl rfl rfl)) ?_
  refine rg_put (d := 39) (v := .pt 101 5) rfl (oy rfl rfl rfl (beq_self_eq_true _) (of_eff (s_field_pt rfl Tryd.underlying35 rfl ti3 rfl rfl rfl) rfl)) ?_
  refine rg_put (d := 40) (v := .d (.fl (.int .i64 x.stagex))) rfl (oy rfl rfl rfl (beq_self_eq_true _) (op_load_pt rfl Tryd.underlying3 rfl rfl rfl rfl rfl)) ?_
  refine rg_put (d := 41) (v := .pt 102 5) rfl (oy rfl rfl rfl (beq_self_eq_true _) (of_eff (s_field_pt rfl Tryd.underlying35 rfl ti3 rfl rfl rfl) rfl)) ?_
  refine rg_put (d := 42) (v := .d (.fl (.int .i64 x.stagex))) rfl (oy rfl rfl rfl (beq_self_eq_true _) (op_load_pt rfl Tryd.underlying3 rfl rfl rfl rfl rfl)) ?_
  refine rg_put (d := 43) (v := .d (.fl (.bool (x.stagex == x.stagex)))) rfl (oy rfl rfl rfl (beq_self_eq_true _) (op_bin rfl rfl rfl (b_eql _ _ _ _) rfl)) ?_
  refine rg_put (d := 44) (v := .d (.fl (.bool (x.stagex == x.stagex)))) rfl (og rfl (op_pick rfl rfl (by rw [(beq_self_eq_true _)]; rfl) rfl)) ?_
  refine rg_put (d := 45) (v := .d (.fl (.bool (x.stagex == x.stagex)))) rfl (og rfl (op_move rfl rfl rfl)) ?_
  refine rg_put (d := 46) (v := .pt 101 6) rfl (oy rfl rfl rfl (beq_self_eq_true _) (of_eff (s_field_pt rfl Tryd.underlying35 rfl ti3 rfl rfl rfl) rfl)) ?_
  refine rg_put (d := 47) (v := .d (.fl (.int .i64 x.owedx))) rfl (oy rfl rfl rfl (beq_self_eq_true _) (op_load_pt rfl Tryd.underlying3 rfl rfl rfl rfl rfl)) ?_
  refine rg_put (d := 48) (v := .pt 102 6) rfl (oy rfl rfl rfl (beq_self_eq_true _) (of_eff (s_field_pt rfl Tryd.underlying35 rfl ti3 rfl rfl rfl) rfl)) ?_
  refine rg_put (d := 49) (v := .d (.fl (.int .i64 x.owedx))) rfl (oy rfl rfl rfl (beq_self_eq_true _) (op_load_pt rfl Tryd.underlying3 rfl rfl rfl rfl rfl)) ?_
  refine rg_put (d := 50) (v := .d (.fl (.bool (x.owedx == x.owedx)))) rfl (oy rfl rfl rfl (beq_self_eq_true _) (op_bin rfl rfl rfl (b_eql _ _ _ _) rfl)) ?_
  refine rg_put (d := 51) (v := .d (.fl (.bool (x.owedx == x.owedx)))) rfl (og rfl (op_pick rfl rfl (by rw [(beq_self_eq_true _)]; rfl) rfl)) ?_
  refine rg_put (d := 52) (v := .d (.fl (.bool (x.owedx == x.owedx)))) rfl (og rfl (op_move rfl rfl rfl)) ?_
  refine rg_put (d := 53) (v := .pt 101 7) rfl (oy rfl rfl rfl (beq_self_eq_true _) (of_eff (s_field_pt rfl Tryd.underlying35 rfl ti3 rfl rfl rfl) rfl)) ?_
  refine rg_put (d := 54) (v := .d (.fl (.int .i64 x.paidx))) rfl (oy rfl rfl rfl (beq_self_eq_true _) (op_load_pt rfl Tryd.underlying3 rfl rfl rfl rfl rfl)) ?_
  refine rg_put (d := 55) (v := .pt 102 7) rfl (oy rfl rfl rfl (beq_self_eq_true _) (of_eff (s_field_pt rfl Tryd.underlying35 rfl ti3 rfl rfl rfl) rfl)) ?_
  refine rg_put (d := 56) (v := .d (.fl (.int .i64 x.paidx))) rfl (oy rfl rfl rfl (beq_self_eq_true _) (op_load_pt rfl Tryd.underlying3 rfl rfl rfl rfl rfl)) ?_
  refine rg_put (d := 57) (v := .d (.fl (.bool (x.paidx == x.paidx)))) rfl (oy rfl rfl rfl (beq_self_eq_true _) (op_bin rfl rfl rfl (b_eql _ _ _ _) rfl)) ?_
  refine rg_put (d := 58) (v := .d (.fl (.bool (x.paidx == x.paidx)))) rfl (og rfl (op_pick rfl rfl (by rw [(beq_self_eq_true _)]; rfl) rfl)) ?_
  refine rg_put (d := 59) (v := .d (.fl (.bool (x.paidx == x.paidx)))) rfl (og rfl (op_move rfl rfl rfl)) ?_
  refine rg_put (d := 60) (v := .pt 101 8) rfl (oy rfl rfl rfl (beq_self_eq_true _) (of_eff (s_field_pt rfl Tryd.underlying35 rfl ti3 rfl rfl rfl) rfl)) ?_
  refine rg_put (d := 61) (v := .d (.fl (.int .i64 x.pausedx))) rfl (oy rfl rfl rfl (beq_self_eq_true _) (op_load_pt rfl Tryd.underlying3 rfl rfl rfl rfl rfl)) ?_
  refine rg_put (d := 62) (v := .pt 102 8) rfl (oy rfl rfl rfl (beq_self_eq_true _) (of_eff (s_field_pt rfl Tryd.underlying35 rfl ti3 rfl rfl rfl) rfl)) ?_
  refine rg_put (d := 63) (v := .d (.fl (.int .i64 x.pausedx))) rfl (oy rfl rfl rfl (beq_self_eq_true _) (op_load_pt rfl Tryd.underlying3 rfl rfl rfl rfl rfl)) ?_
  refine rg_put (d := 64) (v := .d (.fl (.bool (x.pausedx == x.pausedx)))) rfl (oy rfl rfl rfl (beq_self_eq_true _) (op_bin rfl rfl rfl (b_eql _ _ _ _) rfl)) ?_
  refine rg_put (d := 65) (v := .d (.fl (.bool (x.pausedx == x.pausedx)))) rfl (og rfl (op_pick rfl rfl (by rw [(beq_self_eq_true _)]; rfl) rfl)) ?_
  refine rg_put (d := 66) (v := .d (.fl (.bool (x.pausedx == x.pausedx)))) rfl (og rfl (op_move rfl rfl rfl)) ?_
  refine rg_put (d := 67) (v := .pt 101 9) rfl (oy rfl rfl rfl (beq_self_eq_true _) (of_eff (s_field_pt rfl Tryd.underlying35 rfl ti33 rfl rfl rfl) rfl)) ?_
  refine rg_put (d := 68) (v := .pt 101 9) rfl (oy rfl rfl rfl (beq_self_eq_true _) (of_eff (s_field_pt rfl Tryd.underlying33 rfl ti3 rfl rfl rfl) rfl)) ?_
  refine rg_put (d := 69) (v := .d (.fl (.int .i64 x.appealx.statex))) rfl (oy rfl rfl rfl (beq_self_eq_true _) (op_load_pt rfl Tryd.underlying3 rfl rfl rfl rfl rfl)) ?_
  refine rg_put (d := 70) (v := .pt 102 9) rfl (oy rfl rfl rfl (beq_self_eq_true _) (of_eff (s_field_pt rfl Tryd.underlying35 rfl ti33 rfl rfl rfl) rfl)) ?_
  refine rg_put (d := 71) (v := .pt 102 9) rfl (oy rfl rfl rfl (beq_self_eq_true _) (of_eff (s_field_pt rfl Tryd.underlying33 rfl ti3 rfl rfl rfl) rfl)) ?_
  refine rg_put (d := 72) (v := .d (.fl (.int .i64 x.appealx.statex))) rfl (oy rfl rfl rfl (beq_self_eq_true _) (op_load_pt rfl Tryd.underlying3 rfl rfl rfl rfl rfl)) ?_
  refine rg_put (d := 73) (v := .d (.fl (.bool (x.appealx.statex == x.appealx.statex)))) rfl (oy rfl rfl rfl (beq_self_eq_true _) (op_bin rfl rfl rfl (b_eql _ _ _ _) rfl)) ?_
  refine rg_put (d := 74) (v := .d (.fl (.bool (x.appealx.statex == x.appealx.statex)))) rfl (og rfl (op_pick rfl rfl (by rw [(beq_self_eq_true _)]; rfl) rfl)) ?_
  refine rg_put (d := 75) (v := .d (.fl (.bool (x.appealx.statex == x.appealx.statex)))) rfl (og rfl (op_move rfl rfl rfl)) ?_
  refine rg_put (d := 76) (v := .pt 101 9) rfl (oy rfl rfl rfl (beq_self_eq_true _) (of_eff (s_field_pt rfl Tryd.underlying35 rfl ti33 rfl rfl rfl) rfl)) ?_
  refine rg_put (d := 77) (v := .pt 101 10) rfl (oy rfl rfl rfl (beq_self_eq_true _) (of_eff (s_field_pt rfl Tryd.underlying33 rfl ti3 rfl rfl rfl) rfl)) ?_
  refine rg_put (d := 78) (v := .d (.fl (.int .i64 x.appealx.groundx))) rfl (oy rfl rfl rfl (beq_self_eq_true _) (op_load_pt rfl Tryd.underlying3 rfl rfl rfl rfl rfl)) ?_
  refine rg_put (d := 79) (v := .pt 102 9) rfl (oy rfl rfl rfl (beq_self_eq_true _) (of_eff (s_field_pt rfl Tryd.underlying35 rfl ti33 rfl rfl rfl) rfl)) ?_
  refine rg_put (d := 80) (v := .pt 102 10) rfl (oy rfl rfl rfl (beq_self_eq_true _) (of_eff (s_field_pt rfl Tryd.underlying33 rfl ti3 rfl rfl rfl) rfl)) ?_
  refine rg_put (d := 81) (v := .d (.fl (.int .i64 x.appealx.groundx))) rfl (oy rfl rfl rfl (beq_self_eq_true _) (op_load_pt rfl Tryd.underlying3 rfl rfl rfl rfl rfl)) ?_
  refine rg_put (d := 82) (v := .d (.fl (.bool (x.appealx.groundx == x.appealx.groundx)))) rfl (oy rfl rfl rfl (beq_self_eq_true _) (op_bin rfl rfl rfl (b_eql _ _ _ _) rfl)) ?_
  refine rg_put (d := 83) (v := .d (.fl (.bool (x.appealx.groundx == x.appealx.groundx)))) rfl (og rfl (op_pick rfl rfl (by rw [(beq_self_eq_true _)]; rfl) rfl)) ?_
  refine rg_put (d := 84) (v := .d (.fl (.bool (x.appealx.groundx == x.appealx.groundx)))) rfl (og rfl (op_move rfl rfl rfl)) ?_
  refine rg_put (d := 85) (v := .pt 101 9) rfl (oy rfl rfl rfl (beq_self_eq_true _) (of_eff (s_field_pt rfl Tryd.underlying35 rfl ti33 rfl rfl rfl) rfl)) ?_
  refine rg_put (d := 86) (v := .pt 101 11) rfl (oy rfl rfl rfl (beq_self_eq_true _) (of_eff (s_field_pt rfl Tryd.underlying33 rfl ti3 rfl rfl rfl) rfl)) ?_
  refine rg_put (d := 87) (v := .d (.fl (.int .i64 x.appealx.dayx))) rfl (oy rfl rfl rfl (beq_self_eq_true _) (op_load_pt rfl Tryd.underlying3 rfl rfl rfl rfl rfl)) ?_
  refine rg_put (d := 88) (v := .pt 102 9) rfl (oy rfl rfl rfl (beq_self_eq_true _) (of_eff (s_field_pt rfl Tryd.underlying35 rfl ti33 rfl rfl rfl) rfl)) ?_
  refine rg_put (d := 89) (v := .pt 102 11) rfl (oy rfl rfl rfl (beq_self_eq_true _) (of_eff (s_field_pt rfl Tryd.underlying33 rfl ti3 rfl rfl rfl) rfl)) ?_
  refine rg_put (d := 90) (v := .d (.fl (.int .i64 x.appealx.dayx))) rfl (oy rfl rfl rfl (beq_self_eq_true _) (op_load_pt rfl Tryd.underlying3 rfl rfl rfl rfl rfl)) ?_
  refine rg_put (d := 91) (v := .d (.fl (.bool (x.appealx.dayx == x.appealx.dayx)))) rfl (oy rfl rfl rfl (beq_self_eq_true _) (op_bin rfl rfl rfl (b_eql _ _ _ _) rfl)) ?_
  refine rg_put (d := 92) (v := .d (.fl (.bool (x.appealx.dayx == x.appealx.dayx)))) rfl (og rfl (op_pick rfl rfl (by rw [(beq_self_eq_true _)]; rfl) rfl)) ?_
  refine rg_put (d := 4) (v := .d (.fl (.bool (x.appealx.dayx == x.appealx.dayx)))) rfl (og rfl (op_assign rfl rfl rfl)) ?_
  refine rg_done rfl ?_
  refine a_ret ?_
  show ∃ ds, ResL _ _ _ ds ∧ RV.of ds = _
  refine ⟨[.fl (.bool (x.appealx.dayx == x.appealx.dayx))], (.cons (.tmp rfl (.d _)) .nil), ?_⟩
  exact congrArg (fun b => RV.d (.fl (.bool b))) (eq_self_b _)
set_option maxHeartbeats 4000000 in
set_option maxRecDepth 100000 in
theorem law5 (a : XAsk) : CtrK Tryd.prog KK 5 [.ag (eXAsk a)] (.d (.fl (.bool true))) := by
  refine ctrK (n := 63) (rs := #[.tmp 2]) (L := [(0, .d (.ag (eXAsk a)))]) Tryd.func5 rfl rfl rfl rfl rfl (fun w0 U0 hG => ?_)
  refine a_rseq ?_
  refine rg_nam (d := 1) (v := .pt 101 0) (m := 101) (nw := [(101, .bx 31 (eXAsk a))]) rfl (og rfl (of_eff (op_box 101 rfl rfl rfl rfl) rfl)) rfl ?_
  refine rg_put (d := 2) (v := .d (.fl (.bool false))) rfl (og rfl (op_assign rfl rfl rfl)) ?_
  refine rg_done rfl ?_
  refine a_seq ?_
  refine a_rseq ?_
  refine rg_put (d := 7) (v := .pt 101 0) rfl (og rfl (of_eff (s_field_pt rfl Tryd.underlying31 rfl ti9 rfl rfl rfl) rfl)) ?_
  refine rg_put (d := 8) (v := .d (.fl (.string a.idx))) rfl (og rfl (op_load_pt rfl Tryd.underlying9 rfl rfl rfl rfl rfl)) ?_
  refine rg_put (d := 9) (v := .d (.fl (.int .i64 (a.idx.size : Int)))) rfl (og rfl (op_len_str rfl Tryd.underlying9 rfl rfl)) ?_
  refine rg_put (d := 10) (v := .d (.fl (.bool ((decide (600 < (a.idx.size : Int))))))) rfl (og rfl (op_bin rfl rfl rfl (b_gtr _ _ _ _) rfl)) ?_
  refine rg_put (d := 11) (v := .d (.fl (.bool ((decide (600 < (a.idx.size : Int))))))) rfl (og rfl (op_move rfl rfl rfl)) ?_
  rcases fot ((decide (600 < (a.idx.size : Int)))) with h1 | h1
  · skip
    have h2 := f_dec h1
    refine rg_put (d := 12) (v := .pt 101 1) rfl (oy rfl rfl rfl h1 (of_eff (s_field_pt rfl Tryd.underlying31 rfl ti9 rfl rfl rfl) rfl)) ?_
    refine rg_put (d := 13) (v := .d (.fl (.string a.platex))) rfl (oy rfl rfl rfl h1 (op_load_pt rfl Tryd.underlying9 rfl rfl rfl rfl rfl)) ?_
    refine rg_put (d := 14) (v := .d (.fl (.int .i64 (a.platex.size : Int)))) rfl (oy rfl rfl rfl h1 (op_len_str rfl Tryd.underlying9 rfl rfl)) ?_
    refine rg_put (d := 15) (v := .d (.fl (.bool ((decide (600 < (a.platex.size : Int))))))) rfl (oy rfl rfl rfl h1 (op_bin rfl rfl rfl (b_gtr _ _ _ _) rfl)) ?_
    refine rg_put (d := 16) (v := .d (.fl (.bool ((decide (600 < (a.platex.size : Int))))))) rfl (og rfl (op_pick rfl rfl (by rw [h1]; rfl) rfl)) ?_
    refine rg_put (d := 17) (v := .d (.fl (.bool ((decide (600 < (a.platex.size : Int))))))) rfl (og rfl (op_move rfl rfl rfl)) ?_
    rcases fot ((decide (600 < (a.platex.size : Int)))) with h3 | h3
    · skip
      have h4 := f_dec h3
      refine rg_put (d := 18) (v := .pt 101 2) rfl (oy rfl rfl rfl h3 (of_eff (s_field_pt rfl Tryd.underlying31 rfl ti9 rfl rfl rfl) rfl)) ?_
      refine rg_put (d := 19) (v := .d (.fl (.string a.keyx))) rfl (oy rfl rfl rfl h3 (op_load_pt rfl Tryd.underlying9 rfl rfl rfl rfl rfl)) ?_
      refine rg_put (d := 20) (v := .d (.fl (.int .i64 (a.keyx.size : Int)))) rfl (oy rfl rfl rfl h3 (op_len_str rfl Tryd.underlying9 rfl rfl)) ?_
      refine rg_put (d := 21) (v := .d (.fl (.bool ((decide (600 < (a.keyx.size : Int))))))) rfl (oy rfl rfl rfl h3 (op_bin rfl rfl rfl (b_gtr _ _ _ _) rfl)) ?_
      refine rg_put (d := 22) (v := .d (.fl (.bool ((decide (600 < (a.keyx.size : Int))))))) rfl (og rfl (op_pick rfl rfl (by rw [h3]; rfl) rfl)) ?_
      refine rg_done rfl ?_
      refine a_cond rfl (fun h5 => ?_) (fun h5 => ?_)
      · skip
        have h6 := t_dec h5
        refine a_rseq ?_
        refine rg_put (d := 23) (v := .d (.fl (.bool true))) rfl (og rfl (op_call rfl Tryd.func10 nm10 rfl .nil alive10 rfl)) ?_
        refine rg_put (d := 2) (v := .d (.fl (.bool true))) rfl (og rfl (op_assign rfl rfl rfl)) ?_
        refine rg_done rfl ?_
        refine a_ret ?_
        show ∃ ds, ResL _ _ _ ds ∧ RV.of ds = _
        refine ⟨[.fl (.bool true)], (.cons (.tmp rfl (.d _)) .nil), ?_⟩
        rfl
      · skip
        have h7 := f_dec h5
        refine a_skip ?_
        show A _ _ _ _ _ _ _
        refine a_rseq ?_
        refine rg_put (d := 25) (v := .pt 101 0) rfl (og rfl (of_eff (s_field_pt rfl Tryd.underlying31 rfl ti9 rfl rfl rfl) rfl)) ?_
        refine rg_put (d := 26) (v := .d (.fl (.string a.idx))) rfl (og rfl (op_load_pt rfl Tryd.underlying9 rfl rfl rfl rfl rfl)) ?_
        refine rg_put (d := 27) (v := .pt 101 1) rfl (og rfl (of_eff (s_field_pt rfl Tryd.underlying31 rfl ti9 rfl rfl rfl) rfl)) ?_
        refine rg_put (d := 28) (v := .d (.fl (.string a.platex))) rfl (og rfl (op_load_pt rfl Tryd.underlying9 rfl rfl rfl rfl rfl)) ?_
        refine rg_put (d := 29) (v := .pt 101 2) rfl (og rfl (of_eff (s_field_pt rfl Tryd.underlying31 rfl ti9 rfl rfl rfl) rfl)) ?_
        refine rg_put (d := 30) (v := .d (.fl (.string a.keyx))) rfl (og rfl (op_load_pt rfl Tryd.underlying9 rfl rfl rfl rfl rfl)) ?_
        refine rg_put (d := 31) (v := .pt 101 3) rfl (og rfl (of_eff (s_field_pt rfl Tryd.underlying31 rfl ti3 rfl rfl rfl) rfl)) ?_
        refine rg_put (d := 32) (v := .d (.fl (.int .i64 a.centsx))) rfl (og rfl (op_load_pt rfl Tryd.underlying3 rfl rfl rfl rfl rfl)) ?_
        refine rg_put (d := 33) (v := .pt 101 4) rfl (og rfl (of_eff (s_field_pt rfl Tryd.underlying31 rfl ti3 rfl rfl rfl) rfl)) ?_
        refine rg_put (d := 34) (v := .d (.fl (.int .i64 a.dayx))) rfl (og rfl (op_load_pt rfl Tryd.underlying3 rfl rfl rfl rfl rfl)) ?_
        refine rg_put (d := 35) (v := .tu [.ag (eXCase (newC a.idx a.platex a.keyx a.centsx a.dayx)), .fl (.int .i64 (newE a.idx a.platex a.keyx a.centsx a.dayx))]) rfl (og rfl (op_callK kkst hG rfl Tryd.func11 nm11 rfl (.cons rfl (.d _) (.cons rfl (.d _) (.cons rfl (.d _) (.cons rfl (.d _) (.cons rfl (.d _) .nil))))) ((newP a.idx a.platex a.keyx a.centsx a.dayx (by omega))) rfl)) ?_
        refine rg_put (d := 24) (v := .tu [.ag (eXCase (newC a.idx a.platex a.keyx a.centsx a.dayx)), .fl (.int .i64 (newE a.idx a.platex a.keyx a.centsx a.dayx))]) rfl (og rfl (op_move rfl rfl rfl)) ?_
        refine rg_put (d := 36) (v := .d (.ag (eXCase (newC a.idx a.platex a.keyx a.centsx a.dayx)))) rfl (og rfl (op_extract rfl rfl rfl rfl)) ?_
        refine rg_put (d := 37) (v := .d (.fl (.int .i64 (newE a.idx a.platex a.keyx a.centsx a.dayx)))) rfl (og rfl (op_extract rfl rfl rfl rfl)) ?_
        refine rg_nam (d := 3) (v := .pt 102 0) (m := 102) (nw := [(102, .bx 35 ([.fl (.string (⟨#[]⟩)), .fl (.string (⟨#[]⟩)), .fl (.string (⟨#[]⟩)), .fl (.int .i64 0), .fl (.int .i64 0), .fl (.int .i64 0), .fl (.int .i64 0), .fl (.int .i64 0), .fl (.int .i64 0), .fl (.int .i64 0), .fl (.int .i64 0), .fl (.int .i64 0)]))]) rfl (og rfl (of_eff (s_alloc 102 rfl ti35 (by kernel_rfl) rfl) rfl)) rfl ?_
        refine rg_sto (nw := [(102, .bx 35 ((eXCase (newC a.idx a.platex a.keyx a.centsx a.dayx))))]) rfl (og rfl (of_eff (s_store rfl rfl ti35 rfl rfl rfl rfl rfl rfl) rfl)) ?_
        refine rg_put (d := 4) (v := .d (.fl (.int .i64 (newE a.idx a.platex a.keyx a.centsx a.dayx)))) rfl (og rfl (op_assign rfl rfl rfl)) ?_
        refine rg_done rfl ?_
        refine a_rseq ?_
        refine rg_put (d := 39) (v := .pt 101 0) rfl (og rfl (of_eff (s_field_pt rfl Tryd.underlying31 rfl ti9 rfl rfl rfl) rfl)) ?_
        refine rg_put (d := 40) (v := .d (.fl (.string a.idx))) rfl (og rfl (op_load_pt rfl Tryd.underlying9 rfl rfl rfl rfl rfl)) ?_
        refine rg_put (d := 41) (v := .pt 101 1) rfl (og rfl (of_eff (s_field_pt rfl Tryd.underlying31 rfl ti9 rfl rfl rfl) rfl)) ?_
        refine rg_put (d := 42) (v := .d (.fl (.string a.platex))) rfl (og rfl (op_load_pt rfl Tryd.underlying9 rfl rfl rfl rfl rfl)) ?_
        refine rg_put (d := 43) (v := .pt 101 2) rfl (og rfl (of_eff (s_field_pt rfl Tryd.underlying31 rfl ti9 rfl rfl rfl) rfl)) ?_
        refine rg_put (d := 44) (v := .d (.fl (.string a.keyx))) rfl (og rfl (op_load_pt rfl Tryd.underlying9 rfl rfl rfl rfl rfl)) ?_
        refine rg_put (d := 45) (v := .pt 101 3) rfl (og rfl (of_eff (s_field_pt rfl Tryd.underlying31 rfl ti3 rfl rfl rfl) rfl)) ?_
        refine rg_put (d := 46) (v := .d (.fl (.int .i64 a.centsx))) rfl (og rfl (op_load_pt rfl Tryd.underlying3 rfl rfl rfl rfl rfl)) ?_
        refine rg_put (d := 47) (v := .pt 101 4) rfl (og rfl (of_eff (s_field_pt rfl Tryd.underlying31 rfl ti3 rfl rfl rfl) rfl)) ?_
        refine rg_put (d := 48) (v := .d (.fl (.int .i64 a.dayx))) rfl (og rfl (op_load_pt rfl Tryd.underlying3 rfl rfl rfl rfl rfl)) ?_
        refine rg_put (d := 49) (v := .tu [.ag (eXCase (newC a.idx a.platex a.keyx a.centsx a.dayx)), .fl (.int .i64 (newE a.idx a.platex a.keyx a.centsx a.dayx))]) rfl (og rfl (op_call rfl Tryd.func12 nm12 rfl (.cons rfl (.d _) (.cons rfl (.d _) (.cons rfl (.d _) (.cons rfl (.d _) (.cons rfl (.d _) .nil))))) (newR a.idx a.platex a.keyx a.centsx a.dayx (by omega)) rfl)) ?_
        refine rg_put (d := 38) (v := .tu [.ag (eXCase (newC a.idx a.platex a.keyx a.centsx a.dayx)), .fl (.int .i64 (newE a.idx a.platex a.keyx a.centsx a.dayx))]) rfl (og rfl (op_move rfl rfl rfl)) ?_
        refine rg_put (d := 50) (v := .d (.ag (eXCase (newC a.idx a.platex a.keyx a.centsx a.dayx)))) rfl (og rfl (op_extract rfl rfl rfl rfl)) ?_
        refine rg_put (d := 51) (v := .d (.fl (.int .i64 (newE a.idx a.platex a.keyx a.centsx a.dayx)))) rfl (og rfl (op_extract rfl rfl rfl rfl)) ?_
        refine rg_nam (d := 5) (v := .pt 103 0) (m := 103) (nw := [(103, .bx 35 ([.fl (.string (⟨#[]⟩)), .fl (.string (⟨#[]⟩)), .fl (.string (⟨#[]⟩)), .fl (.int .i64 0), .fl (.int .i64 0), .fl (.int .i64 0), .fl (.int .i64 0), .fl (.int .i64 0), .fl (.int .i64 0), .fl (.int .i64 0), .fl (.int .i64 0), .fl (.int .i64 0)]))]) rfl (og rfl (of_eff (s_alloc 103 rfl ti35 (by kernel_rfl) rfl) rfl)) rfl ?_
        refine rg_sto (nw := [(103, .bx 35 ((eXCase (newC a.idx a.platex a.keyx a.centsx a.dayx))))]) rfl (og rfl (of_eff (s_store rfl rfl ti35 rfl rfl rfl rfl rfl rfl) rfl)) ?_
        refine rg_put (d := 6) (v := .d (.fl (.int .i64 (newE a.idx a.platex a.keyx a.centsx a.dayx)))) rfl (og rfl (op_assign rfl rfl rfl)) ?_
        refine rg_done rfl ?_
        refine a_rseq ?_
        refine rg_put (d := 52) (v := .d (.fl (.int .i64 (newE a.idx a.platex a.keyx a.centsx a.dayx)))) rfl (og rfl (op_move rfl rfl rfl)) ?_
        refine rg_put (d := 53) (v := .d (.fl (.int .i64 (newE a.idx a.platex a.keyx a.centsx a.dayx)))) rfl (og rfl (op_move rfl rfl rfl)) ?_
        refine rg_put (d := 54) (v := .d (.fl (.bool (((newE a.idx a.platex a.keyx a.centsx a.dayx) == (newE a.idx a.platex a.keyx a.centsx a.dayx)))))) rfl (og rfl (op_bin rfl rfl rfl (b_eql _ _ _ _) rfl)) ?_
        refine rg_put (d := 55) (v := .d (.fl (.bool (((newE a.idx a.platex a.keyx a.centsx a.dayx) == (newE a.idx a.platex a.keyx a.centsx a.dayx)))))) rfl (og rfl (op_move rfl rfl rfl)) ?_
        refine rg_put (d := 56) (v := .d (.ag (eXCase (newC a.idx a.platex a.keyx a.centsx a.dayx)))) rfl (oy rfl rfl rfl (beq_self_eq_true _) (of_eff (s_load_pts rfl Tryd.underlying35 rfl ti35 rfl rfl rfl rfl) rfl)) ?_
        refine rg_put (d := 57) (v := .d (.ag (eXCase (newC a.idx a.platex a.keyx a.centsx a.dayx)))) rfl (oy rfl rfl rfl (beq_self_eq_true _) (of_eff (s_load_pts rfl Tryd.underlying35 rfl ti35 rfl rfl rfl rfl) rfl)) ?_
        refine rg_put (d := 58) (v := .d (.fl (.bool true))) rfl (oy rfl rfl rfl (beq_self_eq_true _) (op_call rfl Tryd.func13 nm13 rfl (.cons rfl (.d _) (.cons rfl (.d _) .nil)) (sameC (newC a.idx a.platex a.keyx a.centsx a.dayx)) rfl)) ?_
        refine rg_put (d := 59) (v := .d (.fl (.bool true))) rfl (og rfl (op_pick rfl rfl (by rw [(beq_self_eq_true _)]; rfl) rfl)) ?_
        refine rg_put (d := 60) (v := .d (.fl (.bool true))) rfl (og rfl (op_move rfl rfl rfl)) ?_
        refine rg_put (d := 61) (v := .d (.fl (.bool true))) rfl (oy rfl rfl rfl rfl (op_call rfl Tryd.func10 nm10 rfl .nil alive10 rfl)) ?_
        refine rg_put (d := 62) (v := .d (.fl (.bool true))) rfl (og rfl (op_pick rfl rfl rfl rfl)) ?_
        refine rg_put (d := 2) (v := .d (.fl (.bool true))) rfl (og rfl (op_assign rfl rfl rfl)) ?_
        refine rg_done rfl ?_
        refine a_ret ?_
        show ∃ ds, ResL _ _ _ ds ∧ RV.of ds = _
        refine ⟨[.fl (.bool true)], (.cons (.tmp rfl (.d _)) .nil), ?_⟩
        rfl
    · skip
      have h8 := t_dec h3
      refine rg_put (d := 18) (v := .d (.fl undef)) rfl (on rfl rfl rfl h3) ?_
      refine rg_put (d := 19) (v := .d (.fl undef)) rfl (on rfl rfl rfl h3) ?_
      refine rg_put (d := 20) (v := .d (.fl undef)) rfl (on rfl rfl rfl h3) ?_
      refine rg_put (d := 21) (v := .d (.fl undef)) rfl (on rfl rfl rfl h3) ?_
      refine rg_put (d := 22) (v := .d (.fl (.bool true))) rfl (og rfl (op_pick rfl rfl (by rw [h3]; rfl) rfl)) ?_
      refine rg_done rfl ?_
      refine a_condK rfl rfl ?_
      refine a_rseq ?_
      refine rg_put (d := 23) (v := .d (.fl (.bool true))) rfl (og rfl (op_call rfl Tryd.func10 nm10 rfl .nil alive10 rfl)) ?_
      refine rg_put (d := 2) (v := .d (.fl (.bool true))) rfl (og rfl (op_assign rfl rfl rfl)) ?_
      refine rg_done rfl ?_
      refine a_ret ?_
      show ∃ ds, ResL _ _ _ ds ∧ RV.of ds = _
      refine ⟨[.fl (.bool true)], (.cons (.tmp rfl (.d _)) .nil), ?_⟩
      rfl
  · skip
    have h9 := t_dec h1
    refine rg_put (d := 12) (v := .d (.fl undef)) rfl (on rfl rfl rfl h1) ?_
    refine rg_put (d := 13) (v := .d (.fl undef)) rfl (on rfl rfl rfl h1) ?_
    refine rg_put (d := 14) (v := .d (.fl undef)) rfl (on rfl rfl rfl h1) ?_
    refine rg_put (d := 15) (v := .d (.fl undef)) rfl (on rfl rfl rfl h1) ?_
    refine rg_put (d := 16) (v := .d (.fl (.bool true))) rfl (og rfl (op_pick rfl rfl (by rw [h1]; rfl) rfl)) ?_
    refine rg_put (d := 17) (v := .d (.fl (.bool true))) rfl (og rfl (op_move rfl rfl rfl)) ?_
    refine rg_put (d := 18) (v := .d (.fl undef)) rfl (on rfl rfl rfl rfl) ?_
    refine rg_put (d := 19) (v := .d (.fl undef)) rfl (on rfl rfl rfl rfl) ?_
    refine rg_put (d := 20) (v := .d (.fl undef)) rfl (on rfl rfl rfl rfl) ?_
    refine rg_put (d := 21) (v := .d (.fl undef)) rfl (on rfl rfl rfl rfl) ?_
    refine rg_put (d := 22) (v := .d (.fl (.bool true))) rfl (og rfl (op_pick rfl rfl rfl rfl)) ?_
    refine rg_done rfl ?_
    refine a_condK rfl rfl ?_
    refine a_rseq ?_
    refine rg_put (d := 23) (v := .d (.fl (.bool true))) rfl (og rfl (op_call rfl Tryd.func10 nm10 rfl .nil alive10 rfl)) ?_
    refine rg_put (d := 2) (v := .d (.fl (.bool true))) rfl (og rfl (op_assign rfl rfl rfl)) ?_
    refine rg_done rfl ?_
    refine a_ret ?_
    show ∃ ds, ResL _ _ _ ds ∧ RV.of ds = _
    refine ⟨[.fl (.bool true)], (.cons (.tmp rfl (.d _)) .nil), ?_⟩
    rfl
end Go.Proofs.YtgelodnkfajgjaaDoor.Wk
