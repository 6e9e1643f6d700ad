/- What an argument that is a slice of intervals, or an interval, reads as. Conditions: it reads as data. -/
import Derived.Test.YtmdkhnndfhcfdaaSp
import Derived.Deep.Slices
import Derived.Deep.Fields
import Derived.ChangeSame
import Derived.ProofKit
import Derived.Lib.SmallJoins
import Derived.OpenShut
set_option linter.unusedSimpArgs false
set_option linter.unusedVariables false
namespace Go.Proofs.Ytmdkhnndfhcfdaa.Wk
open Go.RowKit Go.ChangeShapes Go.WideShapes Go.Deep Go.Joins
open Go.Proofs.Ytmdkhnndfhcfdaa.Mt
variable {H : Type} {enc : TypeId × Value → H} {w : World} {base : Nat} {spare : Nat → Bool} {held : Bool}
theorem cells3 : Try.prog.cellsOf 3 = 1 := by kernel_rfl
theorem cells25 : Try.prog.cellsOf 25 = 2 := by kernel_rfl
theorem in_wf {x : Int} (h : (Lit.int .i64 x).wf = true) : In64 x := by
  unfold In64
  simpa [Lit.wf, IntKind.min, IntKind.max, IntKind.signed, IntKind.bits] using h
theorem iv_of {fuel : Nat} {cs : List Value} {x : DataW H × List MemPlace} (h : DataW.trod enc Try.prog w base spare held fuel 25 cs = some x) :
    ∃ r : Iv, cs = [.int .i64 r.1, .int .i64 r.2] ∧ In64 r.1 ∧ In64 r.2 := by
  obtain ⟨ys, n, _, _, hlen, _, hf⟩ := DataW.trod_struct Try.underlying25 h
  rw [cells25] at hlen
  match cs, hlen with
  | [v0, v1], _ =>
    have h0 : DataW.trod enc Try.prog w base spare held n 3 (([v0, v1].drop 0).take (Try.prog.cellsOf 3)) = ys[0]? := hf 0 _ rfl
    have h1 : DataW.trod enc Try.prog w base spare held n 3 (([v0, v1].drop 1).take (Try.prog.cellsOf 3)) = ys[1]? := hf 1 _ rfl
    rw [cells3] at h0 h1
    simp only [List.drop, List.take] at h0 h1
    have hl : ys.length = 2 := by assumption
    match ys, hl with
    | [y0, y1], _ =>
      simp only [List.getElem?_cons_zero, List.getElem?_cons_succ] at h0 h1
      obtain ⟨a, e0, _, w0⟩ := DataW.trod_int Try.underlying3 h0
      obtain ⟨b, e1, _, w1⟩ := DataW.trod_int Try.underlying3 h1
      injection e0 with e0
      injection e1 with e1
      subst e0 e1
      exact ⟨(a, b), rfl, in_wf w0, in_wf w1⟩
theorem open_rp {fuel : Nat} {A : Option Addr} {n c : Nat} {x : DataW H × List MemPlace} (h : DataW.trod enc Try.prog w base spare held fuel 22 [.slice A n c] = some x) :
    ∃ rs, (A = none → n = 0 ∧ c = 0) ∧ Rp w w.heap.size A n rs := by
  rcases open_slice Try.underlying22 h with ⟨h0, _⟩ | ⟨a, len, cap, m, k, D, Pl, hcs, hb, hl, hm, hmm, _, hi⟩
  · simp at h0
    obtain ⟨rfl, rfl, rfl⟩ := h0
    exact ⟨[], fun _ => ⟨rfl, rfl⟩, rfl, by omega, fun h => by omega, fun i => by simp [vat, In64]⟩
  · simp at hcs
    obtain ⟨rfl, rfl, rfl⟩ := hcs
    have hnm : n ≤ m := by rw [hmm]; split <;> omega
    unfold maxLen at hm
    obtain ⟨R, hR⟩ := choose_lt (α := Iv) (n := n) (p := fun i r => w.cell? (a.add (i * 2)) = some (.int .i64 r.1) ∧ w.cell? (a.add (i * 2 + 1)) = some (.int .i64 r.2) ∧ In64 r.1 ∧ In64 r.2) (fun i hin => by
      obtain ⟨cs', hc, ht⟩ := hi i (by omega)
      obtain ⟨r, rfl, i0, i1⟩ := iv_of ht
      rw [cells25] at hc
      obtain ⟨_, _, hat⟩ := World.cells?_some hc
      have h0 := hat 0 (by omega)
      have h1 := hat 1 (by omega)
      rw [add_add] at h0 h1
      exact ⟨r, h0, h1, i0, i1⟩)
    have hvat : ∀ i, i < n → vat ((List.range n).map R) i = R i := fun i hin => by simp [vat, hin]
    refine ⟨(List.range n).map R, fun e => (by cases e), by simp, by omega, fun hn => ?_, fun i => ?_⟩
    · obtain ⟨b, off, spot⟩ := a
      have hc0 := (hR 0 hn).1
      have hspot : spot = none := by simpa [Addr.add] using World.cell?_spot hc0
      subst hspot
      have hlt := World.block_lt_of_cell? _ _ hc0
      refine ⟨b, off, rfl, by simpa [Addr.add] using hlt, fun i hin => ?_⟩
      obtain ⟨h0, h1, _, _⟩ := hR i hin
      have ha : ∀ j, (⟨b, off, none⟩ : Addr).add j = ⟨b, off + j, none⟩ := by
        intro j
        unfold Addr.add
        by_cases hj : j = 0 <;> simp [hj]
      rw [ha] at h0 h1
      rw [hvat i hin]
      exact ⟨h0, by rw [Nat.add_assoc]; exact h1⟩
    · rcases Nat.lt_or_ge i n with hin | hin
      · rw [hvat i hin]
        exact (hR i hin).2.2
      · have e : vat ((List.range n).map R) i = (0, 0) := by simp [vat, hin]
        rw [e]
        simp [In64]
theorem Open_rp {r : Reach} {b0 : Nat} {v : Value} {d : DataW H} {p : List MemPlace} (hv : Value.okWide Try.prog w r b0 22 v) (h : DataW.Trod enc Try.prog w base spare held 22 v d p) :
    ∃ A n c zs, v = .slice A n c ∧ (A = none → n = 0 ∧ c = 0) ∧ Rp w w.heap.size A n zs := by
  obtain ⟨a, n, c, rfl⟩ := okWide_slice Try.underlying22 hv
  obtain ⟨fuel, hf⟩ := h
  obtain ⟨zs, hz⟩ := open_rp hf
  exact ⟨a, n, c, zs, rfl, hz⟩
theorem Open_iv {r : Reach} {b0 : Nat} {v : Value} {d : DataW H} {p : List MemPlace} (hv : Value.okWide Try.prog w r b0 25 v) (h : DataW.Trod enc Try.prog w base spare held 25 v d p) :
    ∃ x y : Int, v = .agg #[.int .i64 x, .int .i64 y] ∧ In64 x ∧ In64 y := by
  obtain ⟨v0, v1, y0, y1, m, rfl, _, _, h0, h1⟩ := open_agg2 Try.underlying25 (by kernel_rfl) cells25 hv h
  obtain ⟨a, e0, _, w0⟩ := DataW.trod_int Try.underlying3 h0
  obtain ⟨b, e1, _, w1⟩ := DataW.trod_int Try.underlying3 h1
  injection e0 with e0
  injection e1 with e1
  subst e0 e1
  exact ⟨a, b, rfl, in_wf w0, in_wf w1⟩
end Go.Proofs.Ytmdkhnndfhcfdaa.Wk
