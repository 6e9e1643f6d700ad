/- What an argument that is a slice of strings reads as; what the listed table gives. Conditions: it reads as data. -/
import Derived.Test.YtcgcccieccicnaaDoorBm
import Derived.Test.YtcgcccieccicnaaDoorRows
import Derived.Deep.Slices
import Derived.Deep.Fields
import Derived.ChangeSame
import Derived.ProofKit
import Derived.Lib.SmallJoins
import Derived.Lib.LaidTab
import Derived.LaidMore
import Derived.OpenShut
import Derived.Stop.LaidErr
import Derived.Stop.Joined
import Derived.MakeChecks
set_option linter.unusedSimpArgs false
set_option linter.unusedVariables false
namespace Go.Proofs.YtcgcccieccicnaaDoor.Wk
open Go.RowKit Go.ChangeShapes Go.WideShapes Go.Deep Go.Joins
open Go.Proofs.YtcgcccieccicnaaDoor.Mt
section
variable {H : Type} {enc : TypeId × Value → H} {w : World} {base : Nat} {spare : Nat → Bool} {held : Bool}
theorem cells9 : Tryd.prog.cellsOf 9 = 1 := by kernel_rfl
theorem in_wf {x : Int} (h : (Lit.int .i64 x).wf = true) : Mt.In64 x := by
  unfold Mt.In64
  simpa [Lit.wf, IntKind.min, IntKind.max, IntKind.signed, IntKind.bits] using h
theorem open_rs {fuel : Nat} {A : Option Addr} {n c : Nat} {x : DataW H × List MemPlace} (h : DataW.trod enc Tryd.prog w base spare held fuel 24 [.slice A n c] = some x) :
    ∃ rs, Rs w w.heap.size A n rs ∧ n ≤ c := by
  rcases open_slice1 Tryd.underlying24 cells9 h with ⟨h0, _⟩ | ⟨a, len, cap, m, k, V, D, Pl, hcs, hb, hl, hm, hmm, _, hi⟩
  · simp at h0
    obtain ⟨rfl, rfl, rfl⟩ := h0
    exact ⟨[], rs_none _ _, Nat.le_refl _⟩
  · simp at hcs
    obtain ⟨rfl, rfl, rfl⟩ := hcs
    have hnm : n ≤ m := by rw [hmm]; split <;> omega
    unfold maxLen at hm
    obtain ⟨R, hR⟩ := choose_lt (α := ByteArray) (n := n) (p := fun i r => w.cell? (a.add i) = some (.string r)) (fun i hin => by
      obtain ⟨hc, ht⟩ := hi i (by omega)
      obtain ⟨r, e0, _, _⟩ := DataW.trod_string Tryd.underlying9 ht
      injection e0 with e0
      exact ⟨r, by rw [hc, e0]⟩)
    have hvat : ∀ i, i < n → sat ((List.range n).map R) i = R i := fun i hin => by simp [sat, hin]
    refine ⟨(List.range n).map R, ⟨by simp, by omega, fun hn => ?_⟩, hl⟩
    obtain ⟨b, off, spot⟩ := a
    have hc0 := hR 0 hn
    have hspot : spot = none := by simpa [Addr.add] using World.cell?_spot hc0
    subst hspot
    have hlt := World.block_lt_of_cell? _ _ hc0
    refine ⟨b, off, rfl, by simpa [Addr.add] using hlt, fun i hin => ?_⟩
    have h0 := hR i hin
    have ha : (⟨b, off, none⟩ : Addr).add i = ⟨b, off + i, none⟩ := by
      unfold Addr.add
      by_cases hj : i = 0 <;> simp [hj]
    rw [ha] at h0
    rw [hvat i hin]
    exact h0
theorem Open_rs {r : Reach} {b0 : Nat} {v : Value} {d : DataW H} {p : List MemPlace} (hv : Value.okWide Tryd.prog w r b0 24 v) (h : DataW.Trod enc Tryd.prog w base spare held 24 v d p) :
    ∃ A n c zs, v = .slice A n c ∧ Rs w w.heap.size A n zs ∧ n ≤ c := by
  obtain ⟨a, n, c, rfl⟩ := okWide_slice Tryd.underlying24 hv
  obtain ⟨fuel, hf⟩ := h
  obtain ⟨zs, hz, hc⟩ := open_rs hf
  exact ⟨a, n, c, zs, rfl, hz, hc⟩
end
theorem of_laid {W : World} (h : laidMetH Tryd.prog [("math/bits.deBruijn32tab", Rows.laid_math_bits_deBruijn32tab), ("math/bits.deBruijn64tab", Rows.laid_math_bits_deBruijn64tab), ("internal/strconv.uint64pow10", Rows.laid_internal_strconv_uint64pow10)] W) : Tb W := by
  rw [MakeChecks.laidMetH_plain _ _ _ (by kernel_rfl)] at h
  have h2 := h.tail.tail
  have e : (Rows.laid_internal_strconv_uint64pow10 : DataW Unit) = Lib.tabData .u64 Lib.pow10Tab := by kernel_rfl
  rw [e] at h2
  exact Lib.tabIs_of_head (show Tryd.prog.globalNamed "internal/strconv.uint64pow10" = some 0 by kernel_rfl) (show (Tryd.prog.globals[0]?).map (·.type) = some 77 by kernel_rfl) Tryd.underlying77 Tryd.underlying67 (by kernel_rfl) (by kernel_rfl) h2
end Go.Proofs.YtcgcccieccicnaaDoor.Wk
