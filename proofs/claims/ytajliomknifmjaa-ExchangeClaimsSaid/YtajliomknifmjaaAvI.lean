/- Maps keyed by a structure: look-up, and a key that is not there yet. Conditions: as each theorem names them. -/
import Derived.Test.YtajliomknifmjaaAvD
set_option linter.unusedSimpArgs false
set_option linter.unusedVariables false
namespace Go.Proofs.Ytajliomknifmjaa.Av
open Go Go.RowKit
open Go.ChangeMaps (setBlock)
section
variable {P : Program} {N : Nat} {w0 : World} {U0 : Nat → Nat}
structure KeyK (P : Program) (kt : TypeId) (td : TypeDesc) (ok : Value → Prop) (same : Value → Value → Bool) : Prop where
  hu : P.underlying kt = some td
  hn : ∀ k x, Instr.sameNow td k x = none
  hc : ∀ k, ok k → ∀ e w, (Instr.checkKey e 10000 kt k).run P w = .ok () w
  he : ∀ k x, ok k → ok x → ∀ w, (Op.equal kt k x).run P w = .ok (same k x) w
  hr : ∀ k, ok k → same k k = true
def mfindK (same : Value → Value → Bool) (k : Value) : List (Value × DV) → Option DV
  | [] => none
  | x :: xs => bif same k x.1 then some x.2 else mfindK same k xs
theorem agg_get {w : World} {U : Nat → Nat} {v : Value} {cs : List DV} (h : Rd w U v (.ag cs)) : ∃ vs : Array Value, v = .agg vs ∧ vs.size = cs.length ∧ (∀ u ∈ vs.toList, u.oneCell' = true) ∧ ∀ (j : Nat) (u : Value) (x : DV), vs.toList[j]? = some u → cs[j]? = some x → Rd w U u x := by
  cases h with
  | ag vs cs h1 h2 h3 => exact ⟨vs, rfl, h1, h2, h3⟩
theorem op_fieldC {o : Oper} {σ : AS} {s : TypeId} {x : Operand} {f : Nat} (ho : o.op = .field s x f) {fs : Array Field} (hu : P.underlying s = some (.struct fs)) {fd : Field} (hf : fs[f]? = some fd) {d : TypeDesc} (hud : P.underlying fd.type = some d) (ha : aggD d = false)
    {cs : List DV} (hx : σ.ev x = .d (.ag cs)) {off : Nat} (hoff : fd.offset = off) {v : DV} (hv : cs[off]? = some v) (hd : dOk o N = true) : OpS P N w0 U0 o σ ⟨o.dst.map fun d => (d, .d v), [], [], []⟩ :=
  opS_still hd fun σ' hok a w F hF => by
    obtain ⟨vs, hv', h1, h2, h3⟩ := agg_get (ev_get hok hF (x := x) (by simp [ho, Op.operands]) hx)
    have hlt : off < cs.length := (List.getElem?_eq_some_iff.1 hv).1
    obtain ⟨u, hu'⟩ : ∃ u, vs.toList[off]? = some u := ⟨_, List.getElem?_eq_getElem (by simpa using (by omega : off < vs.size))⟩
    have hu2 : vs[off]? = some u := by simpa using hu'
    refine ⟨u, ?_, h3 off u v hu' hv⟩
    simp [execOp, ho, hv', asAgg, Instr.field, run_underlying hu, hf, part, run_isAgg' hud, ha, hoff, hu2, Result.andThen]
end
end Go.Proofs.Ytajliomknifmjaa.Av
