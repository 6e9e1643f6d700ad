/- Lengths of time. No condition. -/
import Derived.Test.YtaecdkhpidligaaR1
set_option linter.unusedSimpArgs false
set_option linter.unusedVariables false
namespace Go.Proofs.Ytaecdkhpidligaa.Wr
open Go Go.RowKit Go.Proofs.Ytaecdkhpidligaa.Av Go.Proofs.Ytaecdkhpidligaa.Wk
theorem bq_t {a b : Int} (h : (a != b) = true) : (a == b) = false := by simpa using h
theorem bq_f {a b : Int} (h : (a != b) = false) : (a == b) = true := by simpa using h
def isD (t : Int) : Bool := !(decide (t < 0) || decide (68719476736 < t))
def fe (f : Nat → Int) : Nat → Nat → Int
  | _, 0 => 0
  | i, n + 1 => if f i = 0 then fe f (i + 1) n else f i
theorem fe_at {f : Nat → Int} {k n : Nat} (h : k < n) : fe f k (n - k) = if f k = 0 then fe f (k + 1) (n - (k + 1)) else f k := by
  rw [show n - k = (n - (k + 1)) + 1 by omega]; rfl
theorem fe_end {f : Nat → Int} {k n : Nat} (h : ¬ k < n) : fe f k (n - k) = 0 := by
  rw [show n - k = 0 by omega]; rfl
def rule (l : List Kp) (p : Int) : Option Kp := l.find? (fun q => p == q.purpose)
def bad (l : List Kp) (i : Nat) : Int :=
  if (decide ((ix l i).purpose < 1) || decide (4 < (ix l i).purpose)) = true then 1 else if (rule (l.take i) (ix l i).purpose).isSome = true then 9 else if (!isD (ix l i).seconds || !isD (ix l i).least) = true then 12 else 0
def ck (l : List Kp) : Int := if (decide ((4 : Int) < (l.length : Int))) = true then 3 else fe (bad l) 0 l.length
theorem ck_go {l : List Kp} (h : (decide ((4 : Int) < (l.length : Int))) = false) : ck l = fe (bad l) 0 (l.length - 0) := by unfold ck; rw [h]; rfl
def ents (l : List Kp) : List (Value × DV) := l.map fun x => (Value.int .i64 x.purpose, .ag (eKp x))
def rd (l : List Kp) : DV := if ck l = 0 then .mp (ents l) else .fl (.map none)

set_option maxHeartbeats 4000000 in
set_option maxRecDepth 100000 in
theorem isDur (t : Int) : Ctr Try.prog 30 [.fl (.int .i64 t)] (.d (.fl (.bool (isD t)))) := by
  refine ctr (n := 9) (rs := #[.tmp 2]) (L := [(0, .d (.fl (.int .i64 t)))]) Try.func30 rfl rfl rfl rfl rfl (fun w0 U0 => ?_)
  refine a_rseq ?_
  refine rg_put (d := 2) (v := .d (.fl (.bool false))) rfl (og rfl (op_assign rfl rfl rfl)) ?_
  refine rg_done rfl ?_
  refine a_rseq ?_
  refine rg_put (d := 3) (v := .d (.fl (.int .i64 t))) rfl (og rfl (op_move rfl rfl rfl)) ?_
  refine rg_put (d := 4) (v := .d (.fl (.bool ((decide (0 ≤ t)))))) rfl (og rfl (op_bin rfl rfl rfl (b_leq _ _ _ _) rfl)) ?_
  refine rg_put (d := 5) (v := .d (.fl (.bool ((decide (0 ≤ t)))))) rfl (og rfl (op_move rfl rfl rfl)) ?_
  rcases fot ((decide (0 ≤ t))) with h1 | h1
  · skip
    have h2 := f_dec h1
    refine rg_put (d := 6) (v := .d (.fl undef)) rfl (on rfl rfl rfl h1) ?_
    refine rg_put (d := 7) (v := .d (.fl undef)) rfl (on rfl rfl rfl h1) ?_
    refine rg_put (d := 8) (v := .d (.fl (.bool false))) rfl (og rfl (op_pick rfl rfl (by rw [h1]; rfl) rfl)) ?_
    refine rg_put (d := 2) (v := .d (.fl (.bool false))) rfl (og rfl (op_assign rfl rfl rfl)) ?_
    refine rg_done rfl ?_
    refine a_ret ?_
    show ∃ ds, ResL _ _ _ ds ∧ RV.of ds = _
    refine ⟨[.fl (.bool false)], (.cons (.tmp rfl (.d _)) .nil), ?_⟩
    have e : (false : Bool) = isD t := by
      unfold isD; rw [Bool.eq_iff_iff]; simp; omega
    exact congrArg (fun b => RV.d (.fl (.bool b))) e
  · skip
    have h3 := t_dec h1
    refine rg_put (d := 6) (v := .d (.fl (.int .i64 t))) rfl (oy rfl rfl rfl h1 (op_move rfl rfl rfl)) ?_
    refine rg_put (d := 7) (v := .d (.fl (.bool ((decide (t ≤ 68719476736)))))) rfl (oy rfl rfl rfl h1 (op_bin rfl rfl rfl (b_leq _ _ _ _) rfl)) ?_
    refine rg_put (d := 8) (v := .d (.fl (.bool ((decide (t ≤ 68719476736)))))) rfl (og rfl (op_pick rfl rfl (by rw [h1]; rfl) rfl)) ?_
    refine rg_put (d := 2) (v := .d (.fl (.bool ((decide (t ≤ 68719476736)))))) rfl (og rfl (op_assign rfl rfl rfl)) ?_
    refine rg_done rfl ?_
    refine a_ret ?_
    show ∃ ds, ResL _ _ _ ds ∧ RV.of ds = _
    refine ⟨[.fl (.bool ((decide (t ≤ 68719476736))))], (.cons (.tmp rfl (.d _)) .nil), ?_⟩
    have e : ((decide (t ≤ 68719476736)) : Bool) = isD t := by
      unfold isD; rw [Bool.eq_iff_iff]; simp; omega
    exact congrArg (fun b => RV.d (.fl (.bool b))) e
end Go.Proofs.Ytaecdkhpidligaa.Wr
