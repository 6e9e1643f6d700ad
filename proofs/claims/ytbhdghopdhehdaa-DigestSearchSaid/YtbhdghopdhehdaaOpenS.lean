/- What a slice of slices of bytes reads as, with what is said of its spare part. Condition: it reads as data. -/
import Derived.Test.YtbhdghopdhehdaaOpen
set_option linter.unusedSimpArgs false
set_option linter.unusedVariables false
namespace Go.Proofs.Ytbhdghopdhehdaa.Wk
open Go.RowKit Go.ChangeShapes Go.WideShapes Go.Deep Go.Joins
open Go.Proofs.Ytbhdghopdhehdaa.Mt
variable {H : Type} {enc : TypeId × Value → H} {w : World} {base : Nat} {held : Bool}
theorem Open_spare {r : Reach} {b0 : Nat} {v : Value} {d : DataW H} {p : List MemPlace} (hv : Value.okWide Try.prog w r b0 28 v) (h : DataW.Trod enc Try.prog w base (fun _ => true) held 28 v d p) :
    ∃ A n c ls, v = .slice A n c ∧ Rss w w.heap.size A n ls ∧ n ≤ c ∧ (A = none → c = 0) ∧ (0 < c → ∀ b o sp, A = some ⟨b, o, sp⟩ → sp = none) := by
  obtain ⟨A, n, c, rfl⟩ := okWide_slice Try.underlying28 hv
  obtain ⟨fuel, hf⟩ := h
  have hf : DataW.trod enc Try.prog w base (fun _ => true) held fuel 28 [.slice A n c] = some (d, p) := hf
  obtain ⟨ls, h2⟩ := open_lists hf
  refine ⟨A, n, c, ls, rfl, h2, ?_⟩
  rcases open_slice1 Try.underlying28 cells22_ hf with ⟨h0, _⟩ | ⟨a, len, cap, m, k, V, D, Pl, hcs, hb, hl, hm, hmm, _, hi⟩
  · simp at h0
    obtain ⟨rfl, rfl, rfl⟩ := h0
    exact ⟨by omega, fun _ => rfl, fun h => by omega⟩
  · simp at hcs
    obtain ⟨rfl, rfl, rfl⟩ := hcs
    refine ⟨hl, (fun h => by cases h), fun hc b o sp e => ?_⟩
    injection e with e
    subst e
    have hmc : m = c := by simpa using hmm
    have hc0 := (hi 0 (by omega)).1
    simpa [Addr.add] using World.cell?_spot hc0
theorem Open_digsS {r : Reach} {b0 : Nat} {spare : Nat → Bool} {v : Value} {d : DataW H} {p : List MemPlace} (hv : Value.okWide Try.prog w r b0 31 v) (h : DataW.Trod enc Try.prog w base spare held 31 v d p) :
    ∃ A n c zs, v = .slice A n c ∧ n ≤ c ∧ Rk .u64 w w.heap.size A n zs ∧ (A = none → c = 0) := by
  obtain ⟨a, n, c, rfl⟩ := okWide_slice Try.underlying31 hv
  obtain ⟨fuel, hf⟩ := h
  obtain ⟨A, n', c', zs, e, h1, h2⟩ := open_digs hf
  injection e with e1 e2 e3
  subst e1 e2 e3
  refine ⟨_, _, _, zs, rfl, h1, h2, ?_⟩
  rcases open_ints Try.underlying31 Try.underlying23 cells23_ hf with ⟨h0, _⟩ | ⟨a, len, cap, ys, hcs, _⟩
  · injection h0 with h0 _
    injection h0 with _ _ h3
    exact fun _ => h3
  · injection hcs with h0 _
    injection h0 with h1 _ _
    exact fun h => by rw [h1] at h; cases h
end Go.Proofs.Ytbhdghopdhehdaa.Wk
