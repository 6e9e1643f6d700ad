/- What an argument that is a slice of numbers, and what the listed table gives reads as. Conditions: it reads as data. -/
import Derived.Test.YtjipcopfggnlkaaDoorAl
import Derived.Test.YtjipcopfggnlkaaDoorRows
import Derived.Deep.Slices
import Derived.Deep.Fields
import Derived.ChangeSame
import Derived.ProofKit
import Derived.OpenShut
import Derived.Lib.SmallJoins
import Derived.Lib.LaidTab
import Derived.LaidMore
import Derived.Stop.LaidErr
import Derived.Stop.Joined
import Derived.MakeChecks
set_option linter.unusedSimpArgs false
set_option linter.unusedVariables false
namespace Go.Proofs.YtjipcopfggnlkaaDoor.Wk
open Go.RowKit Go.ChangeShapes Go.WideShapes Go.Deep Go.Joins
open Go.Proofs.YtjipcopfggnlkaaDoor.Mt
/-- a slice that may be handed on -/
structure Sl (w : World) (A : Option Addr) (n c : Nat) (zs : List Int) : Prop where
  rk : Rk .i64 w w.heap.size A n zs
  le : n ≤ c
  cap : c ≤ 9223372036854775807
  nil : A = none → n = 0 ∧ c = 0
section
variable {H : Type} {enc : TypeId × Value → H} {w : World} {base : Nat} {spare : Nat → Bool} {held : Bool}
theorem cells3 : Tryd.prog.cellsOf 3 = 1 := by kernel_rfl
theorem open_sl {fuel : Nat} {A : Option Addr} {n c : Nat} {x : DataW H × List MemPlace} (h : DataW.trod enc Tryd.prog w base spare held fuel 22 [.slice A n c] = some x) :
    ∃ zs, Sl w A n c zs := by
  rcases open_slice1 Tryd.underlying22 cells3 h with ⟨h0, _⟩ | ⟨a, len, cap, m, k, V, D, Pl, hcs, hb, hl, hm, hmm, _, hi⟩
  · simp at h0
    obtain ⟨rfl, rfl, rfl⟩ := h0
    exact ⟨[], rk_none _ _ _ (by decide), Nat.le_refl _, by omega, fun _ => ⟨rfl, rfl⟩⟩
  · simp at hcs
    obtain ⟨rfl, rfl, rfl⟩ := hcs
    have hnm : n ≤ m := by rw [hmm]; split <;> omega
    unfold maxLen at hm
    obtain ⟨R, hR⟩ := choose_lt (α := Int) (n := n) (p := fun i r => w.cell? (a.add i) = some (.int .i64 r) ∧ (Lit.int .i64 r).wf = true) (fun i hin => by
      obtain ⟨hc, ht⟩ := hi i (by omega)
      obtain ⟨r, e0, _, hw⟩ := DataW.trod_int Tryd.underlying3 ht
      injection e0 with e0
      exact ⟨r, by rw [hc, e0], hw⟩)
    have hvat : ∀ i, i < n → iat ((List.range n).map R) i = R i := fun i hin => by simp [iat, hin]
    refine ⟨(List.range n).map R, ⟨by simp, by omega, fun hn => ?_, fun i => ?_⟩, hl, by omega, fun h => by cases h⟩
    · obtain ⟨b, off, spot⟩ := a
      have hc0 := (hR 0 hn).1
      have hspot : spot = none := by simpa [Addr.add] using World.cell?_spot hc0
      subst hspot
      have hlt := World.block_lt_of_cell? _ _ hc0
      refine ⟨b, off, rfl, by simpa [Addr.add] using hlt, fun i hin => ?_⟩
      have h0 := (hR i hin).1
      have ha : (⟨b, off, none⟩ : Addr).add i = ⟨b, off + i, none⟩ := by
        unfold Addr.add
        by_cases hj : i = 0 <;> simp [hj]
      rw [ha] at h0
      rw [hvat i hin]
      exact h0
    · rcases Nat.lt_or_ge i n with hin | hin
      · rw [hvat i hin]
        exact (hR i hin).2
      · have e : iat ((List.range n).map R) i = 0 := by simp [iat, hin]
        rw [e]
        decide
set_option maxRecDepth 100000 in
theorem Open_sl {r : Reach} {b0 : Nat} {v : Value} {d : DataW H} {p : List MemPlace} (hv : Value.okWide Tryd.prog w r b0 22 v) (h : DataW.Trod enc Tryd.prog w base spare held 22 v d p) :
    ∃ A n c zs, v = .slice A n c ∧ Sl w A n c zs := by
  obtain ⟨a, n, c, rfl⟩ := okWide_slice Tryd.underlying22 hv
  obtain ⟨fuel, hf⟩ := h
  obtain ⟨zs, hz⟩ := open_sl hf
  exact ⟨a, n, c, zs, rfl, hz⟩
end
set_option maxRecDepth 100000 in
theorem of_laid {W : World} (h : laidMetH Tryd.prog [("math/bits.deBruijn32tab", Rows.laid_math_bits_deBruijn32tab), ("math/bits.deBruijn64tab", Rows.laid_math_bits_deBruijn64tab), ("internal/strconv.uint64pow10", Rows.laid_internal_strconv_uint64pow10)] W) : Tb W := by
  rw [MakeChecks.laidMetH_plain _ _ _ (by kernel_rfl)] at h
  have h2 := h.tail.tail
  have e : (Rows.laid_internal_strconv_uint64pow10 : DataW Unit) = Lib.tabData .u64 Lib.pow10Tab := by kernel_rfl
  rw [e] at h2
  exact Lib.tabIs_of_head (show Tryd.prog.globalNamed "internal/strconv.uint64pow10" = some 2 by kernel_rfl) (show (Tryd.prog.globals[2]?).map (·.type) = some 103 by kernel_rfl) Tryd.underlying103 Tryd.underlying52 (by kernel_rfl) (by kernel_rfl) h2
end Go.Proofs.YtjipcopfggnlkaaDoor.Wk
