/- Maps handed on as data; the greater of two; names turned beside a result. Conditions: as each theorem names them. -/
import Derived.Test.YteplcjhnmmpicaaAv15
set_option linter.unusedSimpArgs false
set_option linter.unusedVariables false
namespace Go.Proofs.Yteplcjhnmmpicaa.Av
open Go Go.RowKit
open Go.ChangeMaps (setBlock)
section
variable {P : Program} {N : Nat} {w0 : World} {U0 : Nat → Nat}
theorem rg_upd {ops : Array Oper} {o : Oper} {k : Nat} {L : List (Nat × AV)} {M : List (Nat × Ob)} {R : AS → Prop} {d : Nat} {v : AV} {nw : List (Nat × Ob)} {rn : List Nat} (ho : ops[k]? = some o) (h : OpG P N w0 U0 ops o (SS L M) ⟨some (d, v), nw, rn, []⟩) (hr : RG P N w0 U0 ops (k + 1) (SS ((d, v) :: L) (nw ++ M)) R) : RG P N w0 U0 ops k (SS L M) R :=
  rg_step ho h (fun m hm => by cases hm) (by rw [ap_ss]; exact hr)
/-- the call's own map is read only from here on -/
theorem imp_mp {L : List (Nat × AV)} {M : List (Nat × Ob)} (t m : Nat) {xs : List (Value × DV)} (ht : lk L t = .ow m) (hm : ln M m = .mp xs) : Imp N w0 U0 (SS L M) (SS ((t, .d (.mp xs)) :: L) ((m, .no) :: M)) := by
  intro a w hs
  obtain ⟨F, hF⟩ := hs.f
  have hv : a.tmps.getD t undef = F.γ m := by have := hF.t t; rw [show (SS L M).t t = _ from ht] at this; exact this
  have hob := hF.n m
  rw [show (SS L M).n m = _ from hm] at hob
  obtain ⟨b, es, c, k1, k2, k3, k4, k5, k6⟩ := hob
  have hlt : b < w.heap.size := (Array.getElem?_eq_some_iff.1 k4).1
  have hlive : ((SS L M).n m).live = true := by rw [show (SS L M).n m = _ from hm]; rfl
  obtain ⟨U', hU'⟩ : ∃ U' : Nat → Nat, U' = fun x => if x = b then 1 else F.U x := ⟨_, rfl⟩
  have hU1 : U' b = 1 := by rw [hU']; simp
  have hU2 : ∀ x, x ≠ b → U' x = F.U x := fun x h => by rw [hU']; simp [h]
  have hE : Ext w F.U w U' := ⟨fun b' o' u hc ho' => ⟨hc, by
    have hne : b' ≠ b := fun e => by rw [e, k3] at ho'; omega
    rw [hU2 _ hne]; exact ho'⟩, fun r es c hr hu => ⟨rfl, hU2 r (fun e => by rw [e, k3] at hu; omega)⟩⟩
  have := hF.big (F' := ⟨F.β, F.γ, U', fun k x => k ≠ m ∧ F.S k x⟩) (tw := some (t, .d (.mp xs))) (nw := [(m, .no)]) hE
    (fun x hx => hU2 x (by omega))
    (fun k hk => ⟨rfl, rfl, fun x => ⟨fun h => h.2, fun h => ⟨(fun e => by subst e; rw [nw_one, if_pos rfl] at hk; cases hk), h⟩⟩⟩)
    (fun k hk => .inl ⟨rfl, rfl⟩)
    (fun k hl hk x hx hxl => ⟨rfl, hU2 x (fun e => by
        subst e
        have := hF.i k m x hl hlive hx ((k6 x).2 rfl)
        rw [nw_one, if_pos this] at hk; cases hk)⟩)
    (fun k o hk => by
      rw [nw_one] at hk
      by_cases e : k = m
      · rw [if_pos e] at hk; injection hk with hk; subst hk; trivial
      · rw [if_neg e] at hk; cases hk)
    (fun k o k' x hk hl => by
      rw [nw_one] at hk
      by_cases e : k = m
      · rw [if_pos e] at hk; injection hk with hk; subst hk; cases hl
      · rw [if_neg e] at hk; cases hk)
    (fun k o k' o' x hk hl => by
      rw [nw_one] at hk
      by_cases e : k = m
      · rw [if_pos e] at hk; injection hk with hk; subst hk; cases hl
      · rw [if_neg e] at hk; cases hk)
    (a' := a) (fun t' => by simp only; split <;> rfl) (fun d v h => by
      simp only [Option.some.injEq, Prod.mk.injEq] at h
      obtain ⟨rfl, rfl⟩ := h
      rw [hv, k1]
      exact .mp b es c xs k4 (by show 0 < U' b; omega) (by simpa using k5.1) (fun i e x h1 h2 => (k5.2 i e x h1 h2).1) (fun i e x h1 h2 => (k5.2 i e x h1 h2).2.ext hE)) [] []
  rw [ap_ss] at this
  exact ⟨hs.d, hs.s, hs.b, _, this⟩
theorem op_max {o : Oper} {σ : AS} {x y : Operand} {ts : Array TypeId} (ho : o.op = .call { callee := .builtin .max, args := #[x, y], argTypes := ts }) {k : IntKind} {n q : Int} (hx : σ.ev x = .d (.fl (.int k n))) (hy : σ.ev y = .d (.fl (.int k q))) (hd : dOk o N = true) :
    OpS P N w0 U0 o σ ⟨o.dst.map fun d => (d, .d (.fl (.int k (max n q)))), [], [], []⟩ :=
  opS_still (P := P) (av := .d (.fl (.int k (max n q)))) hd fun σ' hok a w F hF => by
    have h1 := ev_get hok hF (x := x) (by simp [ho, Op.operands, Call.operands]) hx
    have h2 := ev_get hok hF (x := y) (by simp [ho, Op.operands, Call.operands]) hy
    have e1 : a.eval x = .int k n := by generalize a.eval x = v at h1; cases h1; rfl
    have e2 : a.eval y = .int k q := by generalize a.eval y = v at h2; cases h2; rfl
    refine ⟨_, ?_, Rd.fl _⟩
    have e3 : (if q > n then q else n) = max n q := by omega
    simp [execOp, ho, resolve, invoke, builtin, e1, e2, Builtin.max_, Builtin.max2, e3, Result.andThen]
theorem op_min {o : Oper} {σ : AS} {x y : Operand} {ts : Array TypeId} (ho : o.op = .call { callee := .builtin .min, args := #[x, y], argTypes := ts }) {k : IntKind} {n q : Int} (hx : σ.ev x = .d (.fl (.int k n))) (hy : σ.ev y = .d (.fl (.int k q))) (hd : dOk o N = true) :
    OpS P N w0 U0 o σ ⟨o.dst.map fun d => (d, .d (.fl (.int k (min n q)))), [], [], []⟩ :=
  opS_still (P := P) (av := .d (.fl (.int k (min n q)))) hd fun σ' hok a w F hF => by
    have h1 := ev_get hok hF (x := x) (by simp [ho, Op.operands, Call.operands]) hx
    have h2 := ev_get hok hF (x := y) (by simp [ho, Op.operands, Call.operands]) hy
    have e1 : a.eval x = .int k n := by generalize a.eval x = v at h1; cases h1; rfl
    have e2 : a.eval y = .int k q := by generalize a.eval y = v at h2; cases h2; rfl
    refine ⟨_, ?_, Rd.fl _⟩
    have e3 : (if q < n then q else n) = min n q := by omega
    simp [execOp, ho, resolve, invoke, builtin, e1, e2, Builtin.min_, Builtin.min2, e3, Result.andThen]
theorem of_eff {o : Oper} {σ : AS} {e e' : Eff} (h : OpS P N w0 U0 o σ e) (he : e = e') : OpS P N w0 U0 o σ e' := he ▸ h
/-- the look-up by a whole number among entries that come of a list -/
theorem mfind_map {α : Type} (q : IntKind) (key : α → Int) (val : α → DV) (p : Int) : ∀ l : List α, mfind (.int q) (.int q p) (l.map fun x => (.int q (key x), val x)) = some ((l.find? fun x => p == key x).map val)
  | [] => rfl
  | x :: l => by
    have ih := mfind_map q key val p l
    simp only [List.map_cons, mfind, Instr.sameNow, List.find?_cons, if_true]
    cases h : p == key x with
    | true => rfl
    | false => exact ih
end
end Go.Proofs.Yteplcjhnmmpicaa.Av
