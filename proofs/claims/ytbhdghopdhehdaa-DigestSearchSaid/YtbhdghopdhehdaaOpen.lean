/- What slices of bytes, of digests and of slices read as. Conditions: they read as data. -/
import Derived.Test.YtbhdghopdhehdaaCha
import Derived.Deep.Slices
import Derived.ChangeSame
import Derived.ProofKit
import Derived.Lib.SmallJoins
import Derived.OpenShut
set_option linter.unusedSimpArgs false
set_option linter.unusedVariables false
namespace Go.Proofs.Ytbhdghopdhehdaa.Wk
open Go.RowKit Go.ChangeShapes Go.WideShapes Go.Deep Go.Joins
open Go.Proofs.Ytbhdghopdhehdaa.Mt
variable {H : Type} {enc : TypeId × Value → H} {w : World} {base : Nat} {spare : Nat → Bool} {held : Bool}
theorem cells5_ : Try.prog.cellsOf 5 = 1 := by kernel_rfl
theorem cells23_ : Try.prog.cellsOf 23 = 1 := by kernel_rfl
theorem cells22_ : Try.prog.cellsOf 22 = 1 := by kernel_rfl
theorem add_at (b off j : Nat) : (⟨b, off, none⟩ : Addr).add j = ⟨b, off + j, none⟩ := by
  unfold Addr.add
  by_cases hj : j = 0 <;> simp [hj]
theorem open_bytes {fuel : Nat} {v : Value} {x : DataW H × List MemPlace} (h : DataW.trod enc Try.prog w base spare held fuel 22 [v] = some x) :
    ∃ A n c zs, v = .slice A n c ∧ n ≤ c ∧ Rk .u8 w w.heap.size A n zs := by
  rcases open_ints Try.underlying22 Try.underlying5 cells5_ h with ⟨h0, _⟩ | ⟨a, len, cap, zs, hcs, _, hl, hm, hz, _, hcell, hwf⟩
  · simp at h0
    subst h0
    exact ⟨none, 0, 0, [], rfl, by omega, rk_none _ _ _ rfl⟩
  · simp at hcs
    subst hcs
    unfold maxLen at hm
    have hzn : len ≤ zs.length := by
      have : zs.length = (if spare a.block then cap else len) := by simpa using hz
      rw [this]; split <;> omega
    refine ⟨some a, len, cap, zs.take len, rfl, hl, by simp; omega, by omega, fun hn => ?_, fun i => ?_⟩
    · obtain ⟨b, off, spot⟩ := a
      have hc0 := hcell 0 (by omega)
      have hspot : spot = none := by simpa [Addr.add] using World.cell?_spot hc0
      subst hspot
      have hlt := World.block_lt_of_cell? _ _ hc0
      refine ⟨b, off, rfl, by simpa [Addr.add] using hlt, fun i hin => ?_⟩
      have h1 := hcell i (by omega)
      rw [add_at] at h1
      rw [h1]
      simp [iat, List.getElem?_take, hin]
    · by_cases hi : i < len
      · have hiz : i < zs.length := by omega
        have e : iat (zs.take len) i = zs[i] := by simp [iat, List.getElem?_take, hi, hiz]
        rw [e]
        exact hwf _ (List.getElem_mem _)
      · have e : iat (zs.take len) i = 0 := by simp [iat, List.getElem?_take, hi]
        rw [e]; rfl
theorem Open_bytes {r : Reach} {b0 : Nat} {v : Value} {d : DataW H} {p : List MemPlace} (hv : Value.okWide Try.prog w r b0 22 v) (h : DataW.Trod enc Try.prog w base spare held 22 v d p) :
    ∃ A n c zs, v = .slice A n c ∧ n ≤ c ∧ Rk .u8 w w.heap.size A n zs := by
  obtain ⟨a, n, c, rfl⟩ := okWide_slice Try.underlying22 hv
  obtain ⟨fuel, hf⟩ := h
  exact open_bytes hf
theorem open_digs {fuel : Nat} {v : Value} {x : DataW H × List MemPlace} (h : DataW.trod enc Try.prog w base spare held fuel 31 [v] = some x) :
    ∃ A n c zs, v = .slice A n c ∧ n ≤ c ∧ Rk .u64 w w.heap.size A n zs := by
  rcases open_ints Try.underlying31 Try.underlying23 cells23_ h with ⟨h0, _⟩ | ⟨a, len, cap, zs, hcs, _, hl, hm, hz, _, hcell, hwf⟩
  · simp at h0
    subst h0
    exact ⟨none, 0, 0, [], rfl, by omega, rk_none _ _ _ rfl⟩
  · simp at hcs
    subst hcs
    unfold maxLen at hm
    have hzn : len ≤ zs.length := by
      have : zs.length = (if spare a.block then cap else len) := by simpa using hz
      rw [this]; split <;> omega
    refine ⟨some a, len, cap, zs.take len, rfl, hl, by simp; omega, by omega, fun hn => ?_, fun i => ?_⟩
    · obtain ⟨b, off, spot⟩ := a
      have hc0 := hcell 0 (by omega)
      have hspot : spot = none := by simpa [Addr.add] using World.cell?_spot hc0
      subst hspot
      have hlt := World.block_lt_of_cell? _ _ hc0
      refine ⟨b, off, rfl, by simpa [Addr.add] using hlt, fun i hin => ?_⟩
      have h1 := hcell i (by omega)
      rw [add_at] at h1
      rw [h1]
      simp [iat, List.getElem?_take, hin]
    · by_cases hi : i < len
      · have hiz : i < zs.length := by omega
        have e : iat (zs.take len) i = zs[i] := by simp [iat, List.getElem?_take, hi, hiz]
        rw [e]
        exact hwf _ (List.getElem_mem _)
      · have e : iat (zs.take len) i = 0 := by simp [iat, List.getElem?_take, hi]
        rw [e]; rfl
theorem Open_digs {r : Reach} {b0 : Nat} {v : Value} {d : DataW H} {p : List MemPlace} (hv : Value.okWide Try.prog w r b0 31 v) (h : DataW.Trod enc Try.prog w base spare held 31 v d p) :
    ∃ A n c zs, v = .slice A n c ∧ n ≤ c ∧ Rk .u64 w w.heap.size A n zs := by
  obtain ⟨a, n, c, rfl⟩ := okWide_slice Try.underlying31 hv
  obtain ⟨fuel, hf⟩ := h
  exact open_digs hf
theorem open_lists {fuel : Nat} {A : Option Addr} {n c : Nat} {x : DataW H × List MemPlace} (h : DataW.trod enc Try.prog w base spare held fuel 28 [.slice A n c] = some x) :
    ∃ ls, Rss w w.heap.size A n ls := by
  rcases open_slice1 Try.underlying28 cells22_ h with ⟨h0, _⟩ | ⟨a, len, cap, m, k, V, D, Pl, hcs, hb, hl, hm, hmm, _, hi⟩
  · simp at h0
    obtain ⟨rfl, rfl, rfl⟩ := h0
    exact ⟨[], rfl, by omega, fun h => by omega⟩
  · simp at hcs
    obtain ⟨rfl, rfl, rfl⟩ := hcs
    have hnm : n ≤ m := by rw [hmm]; split <;> omega
    unfold maxLen at hm
    obtain ⟨R, hR⟩ := choose_lt (α := Option Addr × Nat × Nat × List Int) (n := n) (p := fun i r => w.cell? (a.add i) = some (.slice r.1 r.2.1 r.2.2.1) ∧ Rk .u8 w w.heap.size r.1 r.2.1 r.2.2.2) (fun i hin => by
      obtain ⟨h1, h2⟩ := hi i (by omega)
      obtain ⟨Ai, ni, ci, zi, e0, _, hr⟩ := open_bytes h2
      exact ⟨(Ai, ni, ci, zi), by rw [h1, e0], hr⟩)
    refine ⟨(List.range n).map fun i => (R i).2.2.2, by simp, by omega, fun hn => ?_⟩
    obtain ⟨b, off, spot⟩ := a
    have hc0 := (hR 0 hn).1
    have hspot : spot = none := by simpa [Addr.add] using World.cell?_spot hc0
    subst hspot
    have hlt := World.block_lt_of_cell? _ _ hc0
    refine ⟨b, off, rfl, by simpa [Addr.add] using hlt, fun i hin => ?_⟩
    obtain ⟨h1, h2⟩ := hR i hin
    rw [add_at] at h1
    refine ⟨_, _, _, h1, ?_⟩
    have e : lat ((List.range n).map fun i => (R i).2.2.2) i = (R i).2.2.2 := by simp [lat, hin]
    rw [e]
    exact h2
theorem Open_lists {r : Reach} {b0 : Nat} {v : Value} {d : DataW H} {p : List MemPlace} (hv : Value.okWide Try.prog w r b0 28 v) (h : DataW.Trod enc Try.prog w base spare held 28 v d p) :
    ∃ A n c ls, v = .slice A n c ∧ Rss w w.heap.size A n ls := by
  obtain ⟨a, n, c, rfl⟩ := okWide_slice Try.underlying28 hv
  obtain ⟨fuel, hf⟩ := h
  obtain ⟨ls, h2⟩ := open_lists hf
  exact ⟨a, n, c, ls, rfl, h2⟩
end Go.Proofs.Ytbhdghopdhehdaa.Wk
