/- What arguments read as: a scale, numbers, a range, a move. Conditions: they read as data. -/
import Derived.Test.YtcobolmagjlbeaaLaw
import Derived.Deep.Slices
import Derived.ChangeSame
import Derived.ProofKit
import Derived.Lib.SmallJoins
set_option linter.unusedSimpArgs false
set_option linter.unusedVariables false
namespace Go.Proofs.Ytcobolmagjlbeaa.Wk
open Go.RowKit Go.ChangeShapes Go.WideShapes Go.Deep Go.Joins
open Go.Proofs.Ytcobolmagjlbeaa.Mt
variable {H : Type} {enc : TypeId × Value → H} {w : World} {base : Nat} {spare : Nat → Bool} {held : Bool}
theorem cells3_ : Try.prog.cellsOf 3 = 1 := by kernel_rfl
theorem cells24 : Try.prog.cellsOf 24 = 4 := by kernel_rfl
theorem cells37 : Try.prog.cellsOf 37 = 2 := by kernel_rfl
theorem i64_in {a : Int} (h : (Lit.int .i64 a).wf = true) : -9223372036854775808 ≤ a ∧ a ≤ 9223372036854775807 := by
  simpa [Lit.wf, IntKind.min, IntKind.max, IntKind.signed, IntKind.bits] using h
theorem add_at (b off j : Nat) : (⟨b, off, none⟩ : Addr).add j = ⟨b, off + j, none⟩ := by
  unfold Addr.add
  by_cases hj : j = 0 <;> simp [hj]
/-- a list of numbers in their kind's range -/
def Rg (l : List Int) : Prop := ∀ i, -9223372036854775808 ≤ at_ l i ∧ at_ l i ≤ 9223372036854775807
theorem Rg.small {l : List Int} (h : Rg l) : ∀ i, at_ l i ≤ 9223372036854775807 := fun i => (h i).2
theorem open_li {fuel : Nat} {v : Value} {x : DataW H × List MemPlace} (h : DataW.trod enc Try.prog w base spare held fuel 22 [v] = some x) :
    ∃ A n c zs, v = .slice A n c ∧ n ≤ c ∧ Ri w w.heap.size A n zs ∧ Rg zs := by
  rcases open_ints Try.underlying22 Try.underlying3 cells3_ h with ⟨h0, _⟩ | ⟨a, len, cap, zs, hcs, _, hl, hm, hz, _, hcell, hwf⟩
  · simp at h0
    subst h0
    exact ⟨none, 0, 0, [], rfl, by omega, ⟨rfl, by omega, fun h => by omega⟩, fun i => by simp [at_]⟩
  · simp at hcs
    subst hcs
    unfold maxLen at hm
    have hzn : len ≤ zs.length := by
      have : zs.length = (if spare a.block then cap else len) := by simpa using hz
      rw [this]; split <;> omega
    have hrg : Rg (zs.take len) := by
      intro i
      by_cases hi : i < len
      · have hiz : i < zs.length := by omega
        have e : at_ (zs.take len) i = zs[i] := by simp [at_, List.getElem?_take, hi, hiz]
        rw [e]
        exact i64_in (hwf _ (List.getElem_mem _))
      · have e : at_ (zs.take len) i = 0 := by simp [at_, List.getElem?_take, hi]
        rw [e]; omega
    refine ⟨some a, len, cap, zs.take len, rfl, hl, ⟨by simp; omega, by omega, fun hn => ?_⟩, hrg⟩
    obtain ⟨b, off, spot⟩ := a
    have hc0 := hcell 0 (by omega)
    have hspot : spot = none := by simpa [Addr.add] using World.cell?_spot hc0
    subst hspot
    have hlt := World.block_lt_of_cell? _ _ hc0
    refine ⟨b, off, rfl, by simpa [Addr.add] using hlt, fun i hin => ?_⟩
    have h1 := hcell i (by omega)
    rw [add_at] at h1
    rw [h1]
    simp [at_, List.getElem?_take, hin]
theorem open_ints_ {r : Reach} {b0 : Nat} {v : Value} {d : DataW H} {p : List MemPlace} (hv : Value.okWide Try.prog w r b0 22 v) (h : DataW.Trod enc Try.prog w base spare held 22 v d p) :
    ∃ A n c zs, v = .slice A n c ∧ n ≤ c ∧ Ri w w.heap.size A n zs ∧ Rg zs := by
  obtain ⟨a, n, c, rfl⟩ := okWide_slice Try.underlying22 hv
  obtain ⟨fuel, hf⟩ := h
  exact open_li hf
theorem open_scale {r : Reach} {b0 : Nat} {v : Value} {d : DataW H} {p : List MemPlace} (hv : Value.okWide Try.prog w r b0 24 v) (h : DataW.Trod enc Try.prog w base spare held 24 v d p) :
    ∃ (q : Int) (A1 A2 A3 : Option Addr) (n1 n2 n3 c1 c2 c3 : Nat) (up dn pt : List Int), v = .agg #[.int .i64 q, .slice A1 n1 c1, .slice A2 n2 c2, .slice A3 n3 c3] ∧
      Ri w w.heap.size A1 n1 up ∧ Ri w w.heap.size A2 n2 dn ∧ Ri w w.heap.size A3 n3 pt := by
  obtain ⟨v0, v1, v2, v3, y0, y1, y2, y3, m, rfl, _, _, h0, h1, h2, h3⟩ := open_agg4 Try.underlying24 (by kernel_rfl) cells24 hv h
  obtain ⟨a, e0, _, _⟩ := DataW.trod_int Try.underlying3 h0
  injection e0 with e0
  subst e0
  obtain ⟨A1, n1, c1, z1, rfl, _, r1, _⟩ := open_li h1
  obtain ⟨A2, n2, c2, z2, rfl, _, r2, _⟩ := open_li h2
  obtain ⟨A3, n3, c3, z3, rfl, _, r3, _⟩ := open_li h3
  exact ⟨a, A1, A2, A3, n1, n2, n3, c1, c2, c3, z1, z2, z3, rfl, r1, r2, r3⟩
theorem open_range {r : Reach} {b0 : Nat} {v : Value} {d : DataW H} {p : List MemPlace} (hv : Value.okWide Try.prog w r b0 37 v) (h : DataW.Trod enc Try.prog w base spare held 37 v d p) :
    ∃ f n : Int, v = .agg #[.int .i64 f, .int .i64 n] := by
  obtain ⟨v0, v1, y0, y1, m, rfl, _, _, h0, h1⟩ := open_agg2 Try.underlying37 (by kernel_rfl) cells37 hv h
  obtain ⟨a, e0, _, _⟩ := DataW.trod_int Try.underlying3 h0
  obtain ⟨b, e1, _, _⟩ := DataW.trod_int Try.underlying3 h1
  injection e0 with e0
  injection e1 with e1
  subst e0 e1
  exact ⟨a, b, rfl⟩
end Go.Proofs.Ytcobolmagjlbeaa.Wk
