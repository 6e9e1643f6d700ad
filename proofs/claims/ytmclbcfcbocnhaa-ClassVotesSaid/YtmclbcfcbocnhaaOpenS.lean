/- What a slice of numbers reads as, with what is said of its spare part. Condition: it reads as data. -/
import Derived.Test.YtmclbcfcbocnhaaOpen
import Derived.Deep.Slices
import Derived.ChangeSame
import Derived.ProofKit
import Derived.Lib.SmallJoins
import Derived.OpenShut
set_option linter.unusedSimpArgs false
set_option linter.unusedVariables false
namespace Go.Proofs.Ytmclbcfcbocnhaa.Wk
open Go.RowKit Go.ChangeShapes Go.WideShapes Go.Deep Go.Joins
open Go.Proofs.Ytmclbcfcbocnhaa.Mt
variable {H : Type} {enc : TypeId × Value → H} {w : World} {base : Nat} {held : Bool}
theorem open_rs {r : Reach} {b0 : Nat} {v : Value} {d : DataW H} {p : List MemPlace} (hv : Value.okWide Try.prog w r b0 38 v) (h : DataW.Trod enc Try.prog w base (fun _ => true) held 38 v d p) :
    ∃ A n c zs, v = .slice A n c ∧ n ≤ c ∧ Ri w w.heap.size A n zs ∧ (A = none → c = 0) ∧ (0 < c → ∀ b o sp, A = some ⟨b, o, sp⟩ → sp = none) := by
  obtain ⟨A, n, c, rfl⟩ := okWide_slice Try.underlying38 hv
  obtain ⟨fuel, hf⟩ := h
  have hf : DataW.trod enc Try.prog w base (fun _ => true) held fuel 38 [.slice A n c] = some (d, p) := hf
  obtain ⟨zs, hz⟩ := open_ri hf
  refine ⟨A, n, c, zs, rfl, ?_⟩
  rcases open_ints Try.underlying38 Try.underlying3 cells3 hf with ⟨h0, _⟩ | ⟨a, len, cap, ys, hcs, _, hl, hm, hy, _, hcell, _⟩
  · simp at h0
    obtain ⟨rfl, rfl, rfl⟩ := h0
    exact ⟨Nat.le_refl _, hz, fun _ => rfl, fun h => by omega⟩
  · simp at hcs
    obtain ⟨rfl, rfl, rfl⟩ := hcs
    refine ⟨hl, hz, (fun h => by cases h), fun hc b o sp e => ?_⟩
    injection e with e
    subst e
    have hyl : ys.length = c := by simpa using hy
    have hc0 := hcell 0 (by omega)
    simpa [Addr.add] using World.cell?_spot hc0
end Go.Proofs.Ytmclbcfcbocnhaa.Wk
