/- What arguments and the table of months read as. Conditions: they read as data; the table reads as the text lays it. -/
import Derived.Test.YtfpndiacbpinpaaDoorLat
import Derived.Test.YtfpndiacbpinpaaDoorRows
import Derived.Deep.Slices
import Derived.ChangeSame
import Derived.ProofKit
import Derived.Lib.SmallJoins
import Derived.OpenShut
import Derived.LaidMore
set_option linter.unusedSimpArgs false
set_option linter.unusedVariables false
namespace Go.Proofs.YtfpndiacbpinpaaDoor.Wk
open Go.RowKit Go.ChangeShapes Go.WideShapes Go.Deep Go.Joins
open Go.Proofs.YtfpndiacbpinpaaDoor.Mt
section
variable {H : Type} {enc : TypeId × Value → H} {w : World} {base : Nat} {spare : Nat → Bool} {held : Bool}
theorem cells3_ : Tryd.prog.cellsOf 3 = 1 := by kernel_rfl
theorem cells35 : Tryd.prog.cellsOf 35 = 3 := by kernel_rfl
theorem cells38 : Tryd.prog.cellsOf 38 = 2 := by kernel_rfl
theorem cells56 : Tryd.prog.cellsOf 56 = 12 := by kernel_rfl
theorem i64_in_ {a : Int} (h : (Lit.int .i64 a).wf = true) : -9223372036854775808 ≤ a ∧ a ≤ 9223372036854775807 := by
  simpa [Lit.wf, IntKind.min, IntKind.max, IntKind.signed, IntKind.bits] using h
theorem add_at (b off j : Nat) : (⟨b, off, none⟩ : Addr).add j = ⟨b, off + j, none⟩ := by
  unfold Addr.add
  by_cases hj : j = 0 <;> simp [hj]
/-- a list of numbers in their kind's range -/
def Rg (l : List Int) : Prop := ∀ i, -9223372036854775808 ≤ iat l i ∧ iat l i ≤ 9223372036854775807
theorem open_li {fuel : Nat} {v : Value} {x : DataW H × List MemPlace} (h : DataW.trod enc Tryd.prog w base spare held fuel 46 [v] = some x) :
    ∃ A n c zs, v = .slice A n c ∧ n ≤ c ∧ Ri w w.heap.size A n zs ∧ Rg zs := by
  rcases open_ints Tryd.underlying46 Tryd.underlying3 cells3_ h with ⟨h0, _⟩ | ⟨a, len, cap, zs, hcs, _, hl, hm, hz, _, hcell, hwf⟩
  · simp at h0
    subst h0
    exact ⟨none, 0, 0, [], rfl, by omega, ⟨rfl, by omega, fun h => by omega⟩, fun i => by simp [iat]⟩
  · simp at hcs
    subst hcs
    unfold maxLen at hm
    have hzn : len ≤ zs.length := by
      have : zs.length = (if spare a.block then cap else len) := by simpa using hz
      rw [this]; split <;> omega
    have hrg : Rg (zs.take len) := by
      intro i
      by_cases hi : i < len
      · have hiz : i < zs.length := by omega
        have e : iat (zs.take len) i = zs[i] := by simp [iat, hi, hiz]
        rw [e]
        exact i64_in_ (hwf _ (List.getElem_mem _))
      · have e : iat (zs.take len) i = 0 := by simp [iat, List.getElem?_take, hi]
        rw [e]; omega
    refine ⟨some a, len, cap, zs.take len, rfl, hl, ⟨by simp; omega, by omega, fun hn => ?_⟩, hrg⟩
    obtain ⟨b, off, spot⟩ := a
    have hc0 := hcell 0 (by omega)
    have hspot : spot = none := by simpa [Addr.add] using World.cell?_spot hc0
    subst hspot
    have hlt := World.block_lt_of_cell? _ _ hc0
    refine ⟨b, off, rfl, by simpa [Addr.add] using hlt, fun i hin => ?_⟩
    have h1 := hcell i (by omega)
    rw [add_at] at h1
    rw [h1]
    simp [iat, hin]
theorem open_ints_ {r : Reach} {b0 : Nat} {v : Value} {d : DataW H} {p : List MemPlace} (hv : Value.okWide Tryd.prog w r b0 46 v) (h : DataW.Trod enc Tryd.prog w base spare held 46 v d p) :
    ∃ A n c zs, v = .slice A n c ∧ n ≤ c ∧ Ri w w.heap.size A n zs ∧ Rg zs := by
  obtain ⟨a, n, c, rfl⟩ := okWide_slice Tryd.underlying46 hv
  obtain ⟨fuel, hf⟩ := h
  exact open_li hf
theorem open_win {r : Reach} {b0 : Nat} {v : Value} {d : DataW H} {p : List MemPlace} (hv : Value.okWide Tryd.prog w r b0 35 v) (h : DataW.Trod enc Tryd.prog w base spare held 35 v d p) :
    ∃ d f t : Int, v = .agg #[.int .i64 d, .int .i64 f, .int .i64 t] := by
  obtain ⟨v0, v1, v2, y0, y1, y2, m, rfl, _, _, h0, h1, h2⟩ := open_agg3 Tryd.underlying35 (by kernel_rfl) cells35 hv h
  obtain ⟨a, e0, _, _⟩ := DataW.trod_int Tryd.underlying3 h0
  obtain ⟨b, e1, _, _⟩ := DataW.trod_int Tryd.underlying3 h1
  obtain ⟨c, e2, _, _⟩ := DataW.trod_int Tryd.underlying3 h2
  injection e0 with e0
  injection e1 with e1
  injection e2 with e2
  subst e0 e1 e2
  exact ⟨a, b, c, rfl⟩
theorem open_ivl {r : Reach} {b0 : Nat} {v : Value} {d : DataW H} {p : List MemPlace} (hv : Value.okWide Tryd.prog w r b0 38 v) (h : DataW.Trod enc Tryd.prog w base spare held 38 v d p) :
    ∃ f n : Int, v = .agg #[.int .i64 f, .int .i64 n] := by
  obtain ⟨v0, v1, y0, y1, m, rfl, _, _, h0, h1⟩ := open_agg2 Tryd.underlying38 (by kernel_rfl) cells38 hv h
  obtain ⟨a, e0, _, _⟩ := DataW.trod_int Tryd.underlying3 h0
  obtain ⟨b, e1, _, _⟩ := DataW.trod_int Tryd.underlying3 h1
  injection e0 with e0
  injection e1 with e1
  subst e0 e1
  exact ⟨a, b, rfl⟩
end
theorem gMonths : Tryd.prog.globalNamed "tollway/clock.monthDays" = some 0 := by kernel_rfl
theorem tMonths : (Tryd.prog.globals[0]?).map (·.type) = some 56 := by kernel_rfl
theorem of_laid {W : World} (h : laidMetH Tryd.prog [("tollway/clock.monthDays", Rows.laid_tollway_clock_monthDays)] W) : Md W := by
  rw [MakeChecks.laidMetH_plain _ _ _ (by kernel_rfl)] at h
  obtain ⟨ps, ⟨g0, t0, cs0, f0, p0, q0, hg0, ht0, hv0, hd0, _, _⟩, _, _⟩ := h
  obtain rfl := Option.some.inj (gMonths.symm.trans hg0)
  obtain rfl := Option.some.inj (tMonths.symm.trans ht0)
  obtain ⟨xs, m1, rfl, hx1, hlen, hn3, hel⟩ := DataW.trod_array Tryd.underlying56 hd0
  rw [cells56] at hlen
  rw [cells3_] at hel
  simp only [Prod.mk.injEq] at hx1
  obtain ⟨hx1, _⟩ := hx1
  have key : ∀ i, i < 12 → W.cell? ⟨0, i, none⟩ = some (.int .i64 (md i)) := by
    intro i hi
    have hc := World.var?_cell hg0 hv0 i
    have he := hel i hi
    obtain ⟨x, hx⟩ : ∃ x, xs[i]? = some x := ⟨xs[i], List.getElem?_eq_getElem (by omega)⟩
    rw [hx] at he
    obtain ⟨k, e1, e2, _⟩ := DataW.trod_int Tryd.underlying3 he
    rw [Nat.mul_one] at e1
    have hci : cs0[i]? = some (.int .i64 k) := by
      have h1 : (cs0.toList.drop i)[0]? = some (.int .i64 k) := by
        have h2 : ((cs0.toList.drop i).take 1)[0]? = some (.int .i64 k) := by rw [e1]; rfl
        rwa [List.getElem?_take, if_pos (by omega)] at h2
      rw [List.getElem?_drop] at h1
      simpa using h1
    rw [hci] at hc
    rw [hc]
    have h3 : (xs.map (·.1))[i]? = some x.1 := by rw [List.getElem?_map, hx]; rfl
    unfold Rows.laid_tollway_clock_monthDays at hx1
    injection hx1 with hx1
    rw [← hx1, e2] at h3
    rcases (show i = 0 ∨ i = 1 ∨ i = 2 ∨ i = 3 ∨ i = 4 ∨ i = 5 ∨ i = 6 ∨ i = 7 ∨ i = 8 ∨ i = 9 ∨ i = 10 ∨ i = 11 by omega) with rfl | rfl | rfl | rfl | rfl | rfl | rfl | rfl | rfl | rfl | rfl | rfl <;> (simp at h3; subst h3; rfl)
  refine ⟨?_, key⟩
  have := World.block_lt_of_cell? _ _ (key 0 (by omega))
  exact this
end Go.Proofs.YtfpndiacbpinpaaDoor.Wk
