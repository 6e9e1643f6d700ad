/- What a slice of slices of bytes reads as, with what is said of its spare part. Condition: it reads as data. -/
import Derived.Test.YtbhdghopdhehdaaOpen
set_option linter.unusedSimpArgs false
set_option linter.unusedVariables false
namespace Go.Proofs.Ytbhdghopdhehdaa.Wk
open Go.RowKit Go.ChangeShapes Go.WideShapes Go.Deep Go.Joins
open Go.Proofs.Ytbhdghopdhehdaa.Mt
variable {H : Type} {enc : TypeId × Value → H} {w : World} {base : Nat} {held : Bool}
theorem Open_spare {r : Reach} {b0 : Nat} {v : Value} {d : DataW H} {p : List MemPlace} (hv : Value.okWide Try.prog w r b0 28 v) (h : DataW.Trod enc Try.prog w base (fun _ => true) held 28 v d p) :
    ∃ A n c ls, v = .slice A n c ∧ Rss w w.heap.size A n ls ∧ n ≤ c ∧ (A = none → c = 0) ∧ (0 < c → ∀ b o sp, A = some ⟨b, o, sp⟩ → sp = none) := by
  obtain ⟨A, n, c, rfl⟩ := okWide_slice Try.underlying28 hv
  obtain ⟨fuel, hf⟩ := h
  have hf : DataW.trod enc Try.prog w base (fun _ => true) held fuel 28 [.slice A n c] = some (d, p) := hf
  obtain ⟨ls, h2⟩ := open_lists hf
  refine ⟨A, n, c, ls, rfl, h2, ?_⟩
  rcases open_slice1 Try.underlying28 cells22_ hf with ⟨h0, _⟩ | ⟨a, len, cap, m, k, V, D, Pl, hcs, hb, hl, hm, hmm, _, hi⟩
  · simp at h0
    obtain ⟨rfl, rfl, rfl⟩ := h0
    exact ⟨by omega, fun _ => rfl, fun h => by omega⟩
  · simp at hcs
    obtain ⟨rfl, rfl, rfl⟩ := hcs
    refine ⟨hl, (fun h => by cases h), fun hc b o sp e => ?_⟩
    injection e with e
    subst e
    have hmc : m = c := by simpa using hmm
    have hc0 := (hi 0 (by omega)).1
    simpa [Addr.add] using World.cell?_spot hc0
end Go.Proofs.Ytbhdghopdhehdaa.Wk
