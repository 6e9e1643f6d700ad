/- What a slice of numbers reads as, with what is said of its spare part. Condition: it reads as data. -/
import Derived.Test.YtcobolmagjlbeaaOpen
set_option linter.unusedSimpArgs false
set_option linter.unusedVariables false
namespace Go.Proofs.Ytcobolmagjlbeaa.Wk
open Go.RowKit Go.ChangeShapes Go.WideShapes Go.Deep Go.Joins
open Go.Proofs.Ytcobolmagjlbeaa.Mt
variable {H : Type} {enc : TypeId × Value → H} {w : World} {base : Nat} {held : Bool}
theorem open_rs {r : Reach} {b0 : Nat} {v : Value} {d : DataW H} {p : List MemPlace} (hv : Value.okWide Try.prog w r b0 22 v) (h : DataW.Trod enc Try.prog w base (fun _ => true) held 22 v d p) :
    ∃ A n c zs, v = .slice A n c ∧ n ≤ c ∧ Ri w w.heap.size A n zs ∧ Rg zs ∧ (A = none → c = 0) ∧ (0 < c → ∀ b o sp, A = some ⟨b, o, sp⟩ → sp = none) := by
  obtain ⟨A, n, c, rfl⟩ := okWide_slice Try.underlying22 hv
  obtain ⟨fuel, hf⟩ := h
  have hf : DataW.trod enc Try.prog w base (fun _ => true) held fuel 22 [.slice A n c] = some (d, p) := hf
  obtain ⟨A', n', c', zs, e, h1, h2, h3⟩ := open_li hf
  injection e with e1 e2 e3
  subst e1 e2 e3
  refine ⟨A, n, c, zs, rfl, h1, h2, h3, ?_⟩
  rcases open_ints Try.underlying22 Try.underlying3 cells3_ hf with ⟨h0, _⟩ | ⟨a, len, cap, ys, hcs, _, hl, hm, hy, _, hcell, _⟩
  · simp at h0
    obtain ⟨rfl, rfl, rfl⟩ := h0
    exact ⟨fun _ => rfl, fun h => by omega⟩
  · simp at hcs
    obtain ⟨rfl, rfl, rfl⟩ := hcs
    refine ⟨(fun h => by cases h), fun hc b o sp e => ?_⟩
    injection e with e
    subst e
    have hyl : ys.length = c := by simpa using hy
    have hc0 := hcell 0 (by omega)
    simpa [Addr.add] using World.cell?_spot hc0
end Go.Proofs.Ytcobolmagjlbeaa.Wk
