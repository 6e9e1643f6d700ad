/- What an argument that is a slice of bytes reads as. Conditions: it reads as data. -/
import Derived.Test.YtppgaddjjlcfcaaAl
import Derived.Test.YtppgaddjjlcfcaaRows
import Derived.Deep.Slices
import Derived.ChangeSame
import Derived.ProofKit
import Derived.OpenShut
set_option linter.unusedSimpArgs false
set_option linter.unusedVariables false
namespace Go.Proofs.Ytppgaddjjlcfcaa.Wk
open Go.RowKit Go.ChangeShapes Go.WideShapes Go.Deep
open Go.Proofs.Ytppgaddjjlcfcaa.Mt
section
variable {H : Type} {enc : TypeId × Value → H} {w : World} {base : Nat} {spare : Nat → Bool} {held : Bool}
theorem cells5 : Try.prog.cellsOf 5 = 1 := by kernel_rfl
theorem in64 {x : Int} (h : (Lit.int .i64 x).wf = true) : -9223372036854775808 ≤ x ∧ x ≤ 9223372036854775807 := by
  simpa [Lit.wf, IntKind.min, IntKind.max, IntKind.signed, IntKind.bits] using h
theorem in16 {x : Int} (h : (Lit.int .u16 x).wf = true) : 0 ≤ x ∧ x ≤ 65535 := by
  simpa [Lit.wf, IntKind.min, IntKind.max, IntKind.signed, IntKind.bits] using h
theorem in32 {x : Int} (h : (Lit.int .u32 x).wf = true) : 0 ≤ x ∧ x ≤ 4294967295 := by
  simpa [Lit.wf, IntKind.min, IntKind.max, IntKind.signed, IntKind.bits] using h
theorem open_sl {fuel : Nat} {A : Option Addr} {n c : Nat} {x : DataW H × List MemPlace} (h : DataW.trod enc Try.prog w base spare held fuel 22 [.slice A n c] = some x) :
    ∃ zs, Sl w A n c zs := by
  rcases open_slice1 Try.underlying22 cells5 h with ⟨h0, _⟩ | ⟨a, len, cap, m, k, V, D, Pl, hcs, hb, hl, hm, hmm, _, hi⟩
  · simp at h0
    obtain ⟨rfl, rfl, rfl⟩ := h0
    exact ⟨[], rk_none _ _ _ (by decide), Nat.le_refl _, by omega, fun _ => ⟨rfl, rfl⟩⟩
  · simp at hcs
    obtain ⟨rfl, rfl, rfl⟩ := hcs
    have hnm : n ≤ m := by rw [hmm]; split <;> omega
    unfold maxLen at hm
    obtain ⟨R, hR⟩ := choose_lt (α := Int) (n := n) (p := fun i r => w.cell? (a.add i) = some (.int .u8 r) ∧ (Lit.int .u8 r).wf = true) (fun i hin => by
      obtain ⟨hc, ht⟩ := hi i (by omega)
      obtain ⟨r, e0, _, hw⟩ := DataW.trod_int Try.underlying5 ht
      injection e0 with e0
      exact ⟨r, by rw [hc, e0], hw⟩)
    have hvat : ∀ i, i < n → iat ((List.range n).map R) i = R i := fun i hin => by simp [iat, hin]
    refine ⟨(List.range n).map R, ⟨by simp, by omega, fun hn => ?_, fun i => ?_⟩, hl, by omega, fun h => by cases h⟩
    · obtain ⟨b, off, spot⟩ := a
      have hc0 := (hR 0 hn).1
      have hspot : spot = none := by simpa [Addr.add] using World.cell?_spot hc0
      subst hspot
      have hlt := World.block_lt_of_cell? _ _ hc0
      refine ⟨b, off, rfl, by simpa [Addr.add] using hlt, fun i hin => ?_⟩
      have h0 := (hR i hin).1
      have ha : (⟨b, off, none⟩ : Addr).add i = ⟨b, off + i, none⟩ := by
        unfold Addr.add
        by_cases hj : i = 0 <;> simp [hj]
      rw [ha] at h0
      rw [hvat i hin]
      exact h0
    · rcases Nat.lt_or_ge i n with hin | hin
      · rw [hvat i hin]
        exact (hR i hin).2
      · have e : iat ((List.range n).map R) i = 0 := by simp [iat, hin]
        rw [e]
        decide
theorem Open_sl {r : Reach} {b0 : Nat} {v : Value} {d : DataW H} {p : List MemPlace} (hv : Value.okWide Try.prog w r b0 22 v) (h : DataW.Trod enc Try.prog w base spare held 22 v d p) :
    ∃ A n c zs, v = .slice A n c ∧ Sl w A n c zs := by
  obtain ⟨a, n, c, rfl⟩ := okWide_slice Try.underlying22 hv
  obtain ⟨fuel, hf⟩ := h
  obtain ⟨zs, hz⟩ := open_sl hf
  exact ⟨a, n, c, zs, rfl, hz⟩
end
end Go.Proofs.Ytppgaddjjlcfcaa.Wk
