/- Distances: the mathematics. No condition. -/
import Derived.Test.YtldglchpaookiaaDoorB1
set_option linter.unusedSimpArgs false
set_option linter.unusedVariables false
namespace Go.Proofs.YtldglchpaookiaaDoor.Wk
open Go Go.RowKit Go.Proofs.YtldglchpaookiaaDoor.Av
theorem ti37 : TI Tryd.prog 37 (.slice none 0 0) 1 24 := ti_of (by kernel_rfl)
section
variable {P : Program} {N : Nat} {w0 : World} {U0 : Nat → Nat}
theorem op_min3 {o : Oper} {σ : AS} {x y z : Operand} {ts : Array TypeId} (ho : o.op = .call { callee := .builtin .min, args := #[x, y, z], argTypes := ts }) {k : IntKind} {n q r : Int} (hx : σ.ev x = .d (.fl (.int k n))) (hy : σ.ev y = .d (.fl (.int k q))) (hz : σ.ev z = .d (.fl (.int k r))) (hd : dOk o N = true) :
    OpS P N w0 U0 o σ ⟨o.dst.map fun d => (d, .d (.fl (.int k (min (min n q) r)))), [], [], []⟩ :=
  opS_still (P := P) (av := .d (.fl (.int k (min (min n q) r)))) hd fun σ' hok a w F hF => by
    have h1 := ev_get hok hF (x := x) (by simp [ho, Op.operands, Call.operands]) hx
    have h2 := ev_get hok hF (x := y) (by simp [ho, Op.operands, Call.operands]) hy
    have h3 := ev_get hok hF (x := z) (by simp [ho, Op.operands, Call.operands]) hz
    have e1 : a.eval x = .int k n := by generalize a.eval x = v at h1; cases h1; rfl
    have e2 : a.eval y = .int k q := by generalize a.eval y = v at h2; cases h2; rfl
    have e4 : a.eval z = .int k r := by generalize a.eval z = v at h3; cases h3; rfl
    refine ⟨_, ?_, Rd.fl _⟩
    have e3 : (if q < n then q else n) = min n q := by omega
    have e5 : (if r < min n q then r else min n q) = min (min n q) r := by omega
    simp [execOp, ho, resolve, invoke, builtin, e1, e2, e4, Builtin.min_, Builtin.min2, e3, e5, Result.andThen]
end

def bI (s : ByteArray) (k : Nat) : Int := ((bt s k).toNat : Int)
def chg (u v : Int) : Int := bif (u == v) then 0 else bif lk u v then 1 else 3
theorem chg_in (u v : Int) : 0 ≤ chg u v ∧ chg u v ≤ 3 := by
  unfold chg
  cases (u == v) <;> cases lk u v <;> simp
theorem chg_self (u : Int) : chg u u = 0 := by simp [chg]
def dd (x y : ByteArray) : Nat → Nat → Int
  | 0, j => 3 * (j : Int)
  | i + 1, 0 => 3 * ((i : Int) + 1)
  | i + 1, j + 1 => min (min (dd x y i j + chg (bI x i) (bI y j)) (dd x y (i + 1) j + 3)) (dd x y i (j + 1) + 3)
theorem dd_0 (x y : ByteArray) (i : Nat) : dd x y i 0 = 3 * (i : Int) := by cases i <;> simp [dd]
theorem dd_in (x y : ByteArray) : ∀ (i j : Nat), (3 * (i : Int) - 3 * (j : Int) ≤ dd x y i j ∧ 3 * (j : Int) - 3 * (i : Int) ≤ dd x y i j) ∧ (0 ≤ dd x y i j ∧ dd x y i j ≤ 3 * (i : Int) + 3 * (j : Int))
  | 0, j => by simp only [dd]; omega
  | i + 1, 0 => by simp only [dd]; omega
  | i + 1, j + 1 => by
    have h1 := dd_in x y i j
    have h2 := dd_in x y (i + 1) j
    have h3 := dd_in x y i (j + 1)
    have h4 := chg_in (bI x i) (bI y j)
    simp only [dd]
    omega
theorem dd_same (x : ByteArray) : ∀ i, dd x x i i = 0
  | 0 => by simp [dd]
  | i + 1 => by
    have h1 := dd_same x i
    have h2 := (dd_in x x (i + 1) i).2.1
    have h3 := (dd_in x x i (i + 1)).2.1
    simp only [dd, h1, chg_self]
    omega
/-- a row of n numbers -/
def rg (n : Nat) (f : Nat → Int) : List Int := (List.range n).map f
theorem rg_len (n : Nat) (f : Nat → Int) : (rg n f).length = n := by simp [rg]
theorem rg_ix {n : Nat} {f : Nat → Int} {q : Nat} (h : q < n) : ix (rg n f) q = f q := by
  have h1 : (rg n f)[q]? = some (f q) := by unfold rg; rw [List.getElem?_map, List.getElem?_range h]; rfl
  have h2 := ix_get (l := rg n f) (i := q) (by rw [rg_len]; exact h)
  rw [h1] at h2
  injection h2 with h2
  exact h2.symm
theorem rg_cong {n : Nat} {f g : Nat → Int} (h : ∀ q, q < n → f q = g q) : rg n f = rg n g := by
  unfold rg
  exact List.map_congr_left (fun q hq => h q (by simpa using hq))
theorem rg_app (n : Nat) (f : Nat → Int) {v : Int} (h : f n = v) : rg n f ++ [v] = rg (n + 1) f := by unfold rg; rw [List.range_succ, List.map_append, ← h]; rfl
theorem rg_rep (n : Nat) (v : Int) : List.replicate n v = rg n (fun _ => v) := by
  unfold rg
  apply List.ext_getElem?
  intro j
  by_cases h : j < n
  · rw [List.getElem?_replicate, if_pos h, List.getElem?_map, List.getElem?_range h]; rfl
  · rw [List.getElem?_replicate, if_neg h, List.getElem?_map, List.getElem?_eq_none (by simp; omega)]; rfl
theorem rg_set {n k : Nat} {f g : Nat → Int} {v : Int} {e : Int → List DV} {y : List OC} (hk : k < n) (hy : y = (e v).map OC.dv) (hv : g k = v) (h : ∀ q, q < n → q ≠ k → f q = g q) : (tD e (rg n f)).set k y = tD e (rg n g) := by
  subst hy
  have e1 : ∀ f : Nat → Int, tD e (rg n f) = (List.range n).map (fun q => (e (f q)).map OC.dv) := fun f => by unfold tD rg; rw [List.map_map, List.map_map]; rfl
  rw [e1, e1]
  apply List.ext_getElem?
  intro j
  rw [List.getElem?_set]
  by_cases hj : k = j
  · subst hj
    rw [if_pos rfl, if_pos (by simpa using hk), List.getElem?_map, List.getElem?_range hk, ← hv]; rfl
  · rw [if_neg hj]
    by_cases hn : j < n
    · rw [List.getElem?_map, List.getElem?_map, List.getElem?_range hn]
      show some _ = some _
      exact congrArg (fun z => some (List.map OC.dv (e z))) (h j hn (fun e => hj e.symm))
    · rw [List.getElem?_eq_none (by simp; omega), List.getElem?_eq_none (by simp; omega)]
/-- the row in the middle of line i + 1 -/
def mx (x y : ByteArray) (i j q : Nat) : Int := if q ≤ j then dd x y (i + 1) q else dd x y i q
theorem mx_at (x y : ByteArray) (i j : Nat) : mx x y i j j = dd x y (i + 1) j := by unfold mx; rw [if_pos (Nat.le_refl _)]
def ini (k q : Nat) : Int := if q < k then 3 * (q : Int) else 0
def hd (s : ByteArray) : ByteArray := if 32 < s.size then s.extract 0 32 else s
theorem hd_sz (s : ByteArray) : (hd s).size ≤ 32 := by
  unfold hd
  by_cases h : 32 < s.size
  · rw [if_pos h]; simp; omega
  · rw [if_neg h]; omega
theorem ext_all (s : ByteArray) : s.extract 0 s.size = s := by
  rw [ByteArray.ext_iff]; simp
def dst (a b : ByteArray) : Int := dd (hd a) (hd b) (hd a).size (hd b).size

end Go.Proofs.YtldglchpaookiaaDoor.Wk
