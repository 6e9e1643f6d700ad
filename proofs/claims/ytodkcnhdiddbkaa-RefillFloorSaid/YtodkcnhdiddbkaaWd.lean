/- What a run's memory holds: words for its blocks. No condition. -/
import Derived.Test.YtodkcnhdiddbkaaAdd
import Derived.Test.YtodkcnhdiddbkaaRmath
import Derived.Laws.AppendOwn
import Derived.Deep.Onto
import Derived.Deep.AppendLies
set_option linter.unusedSimpArgs false
set_option linter.unusedVariables false
namespace Go.Proofs.Ytodkcnhdiddbkaa.Wk
open Go.RowKit
open Go.Proofs.Ytodkcnhdiddbkaa.Mt
/-- block g holds the cells cs of type t, none frozen -/
def Bx (w : World) (g : Nat) (t : TypeId) (cs : Array Value) : Prop := w.heap[g]? = some (.cells cs t (0, 0))
theorem Bx.below {w w' : World} {B g : Nat} {t : TypeId} {cs : Array Value} (h : Bx w g t cs) (hb : Below B w w') (hg : g < B) : Bx w' g t cs := (hb.block g hg).trans h
theorem Bx.lt {w : World} {g : Nat} {t : TypeId} {cs : Array Value} (h : Bx w g t cs) : g < w.heap.size := by
  rcases Nat.lt_or_ge g w.heap.size with hlt | hge
  · exact hlt
  · unfold Bx at h; rw [Array.getElem?_eq_none hge] at h; cases h
theorem Bx.cell {w : World} {g : Nat} {t : TypeId} {cs : Array Value} (h : Bx w g t cs) (i : Nat) : w.cell? ⟨g, i, none⟩ = cs[i]? := cell_of_row w g i cs t (0, 0) h
theorem Bx.free {w : World} {g : Nat} {t : TypeId} {cs : Array Value} (h : Bx w g t cs) (i : Nat) : w.frozen? ⟨g, i, none⟩ = false := by
  unfold Bx at h; simp [World.frozen?, h]
theorem Bx.far {w : World} {g g' : Nat} {t : TypeId} {cs : Array Value} (h : Bx w g t cs) (hne : g ≠ g') (i : Nat) (u : Value) : Bx (w.setCell ⟨g', i, none⟩ u) g t cs := (heap_setCell_other w _ g u hne).trans h
theorem Bx.far3 {w : World} {g g' : Nat} {t : TypeId} {cs : Array Value} (h : Bx w g t cs) (hne : g ≠ g') (x y z : Value) : Bx (((w.setCell ⟨g', 0, none⟩ x).setCell ⟨g', 1, none⟩ y).setCell ⟨g', 2, none⟩ z) g t cs := ((h.far hne 0 x).far hne 1 y).far hne 2 z
theorem Bx.set3 {w : World} {g : Nat} {t : TypeId} {a b c : Value} (h : Bx w g t #[a, b, c]) (x y z : Value) : Bx (((w.setCell ⟨g, 0, none⟩ x).setCell ⟨g, 1, none⟩ y).setCell ⟨g, 2, none⟩ z) g t #[x, y, z] := by
  have h1 : Bx (w.setCell ⟨g, 0, none⟩ x) g t #[x, b, c] := heap_setCell_same w g 0 _ t x h
  have h2 : Bx ((w.setCell ⟨g, 0, none⟩ x).setCell ⟨g, 1, none⟩ y) g t #[x, y, c] := heap_setCell_same _ g 1 _ t y h1
  exact heap_setCell_same _ g 2 _ t z h2
theorem own_below {w w' : World} {base : Nat} {e : TypeId} {size : Nat} {v : Value} {n : Nat} {xs : List Value} (h : w.ownsRow base e size v n xs) (hb : Below w.heap.size w w') : w'.ownsRow base e size v n xs := by
  refine ⟨h.1, ?_⟩
  rcases h.2 with h0 | ⟨g, cap, cur, h1, h2, h3, h4⟩
  · exact .inl h0
  · have hlt : g < w.heap.size := Bx.lt (cs := cur) (t := e) h3
    exact .inr ⟨g, cap, cur, h1, h2, (hb.block g hlt).trans h3, h4⟩
theorem own_far {w : World} {base : Nat} {e : TypeId} {size : Nat} {v : Value} {n : Nat} {xs : List Value} (h : w.ownsRow base e size v n xs) {g : Nat} (hg : g < base) (i : Nat) (u : Value) : (w.setCell ⟨g, i, none⟩ u).ownsRow base e size v n xs :=
  ownsRow_setCell_below h (a := ⟨g, i, none⟩) hg u

structure Wd (w0 wr : World) (q : Nat) (b c t v : Int) (f : Fi) (vs : Value) (out : List Int) : Prop where
  bel : Below w0.heap.size w0 wr
  hq : w0.heap.size + 1 < q
  rb : Bx wr w0.heap.size 23 #[.int .i64 b, .int .i64 c, .int .i64 t, .int .i64 v]
  zb : Bx wr (w0.heap.size + 1) 30 #[.int .i64 0, .int .i64 0, .int .i64 0]
  fb : Bx wr q 30 #[.int .i64 f.s, .int .i64 f.f, .int .i64 f.n]
  ow : wr.ownsRow (q + 1) 3 1 vs out.length (out.map (Value.int .i64))
section
variable {w0 wr w1 : World} {q : Nat} {b c t v : Int} {f : Fi} {vs : Value} {out : List Int}
theorem Wd.below (h : Wd w0 wr q b c t v f vs out) (hb : Below wr.heap.size wr w1) : Wd w0 w1 q b c t v f vs out :=
  ⟨h.bel.trans (hb.mono h.bel.size), h.hq, h.rb.below hb h.rb.lt, h.zb.below hb h.zb.lt, h.fb.below hb h.fb.lt, own_below h.ow hb⟩
theorem Wd.setf (h : Wd w0 wr q b c t v f vs out) (f' : Fi) :
    Wd w0 (((wr.setCell ⟨q, 0, none⟩ (.int .i64 f'.s)).setCell ⟨q, 1, none⟩ (.int .i64 f'.f)).setCell ⟨q, 2, none⟩ (.int .i64 f'.n)) q b c t v f' vs out :=
  have hq := h.hq
  ⟨((h.bel.setCell (p := ⟨q, 0, none⟩) (by show _ ≤ q; omega) _).setCell (p := ⟨q, 1, none⟩) (by show _ ≤ q; omega) _).setCell (p := ⟨q, 2, none⟩) (by show _ ≤ q; omega) _, h.hq,
    h.rb.far3 (by omega) _ _ _, h.zb.far3 (by omega) _ _ _, h.fb.set3 _ _ _, own_far (own_far (own_far h.ow (by omega) _ _) (by omega) _ _) (by omega) _ _⟩
theorem Wd.rcells (h : Wd w0 wr q b c t v f vs out) : wr.cell? ⟨w0.heap.size, 0, none⟩ = some (.int .i64 b) ∧ wr.cell? ⟨w0.heap.size, 1, none⟩ = some (.int .i64 c) ∧ wr.cell? ⟨w0.heap.size, 2, none⟩ = some (.int .i64 t) ∧ wr.cell? ⟨w0.heap.size, 3, none⟩ = some (.int .i64 v) :=
  ⟨(h.rb.cell 0).trans rfl, (h.rb.cell 1).trans rfl, (h.rb.cell 2).trans rfl, (h.rb.cell 3).trans rfl⟩
theorem Wd.fcells (h : Wd w0 wr q b c t v f vs out) : wr.cell? ⟨q, 0, none⟩ = some (.int .i64 f.s) ∧ wr.cell? ⟨q, 1, none⟩ = some (.int .i64 f.f) ∧ wr.cell? ⟨q, 2, none⟩ = some (.int .i64 f.n) :=
  ⟨(h.fb.cell 0).trans rfl, (h.fb.cell 1).trans rfl, (h.fb.cell 2).trans rfl⟩
theorem Wd.ffree (h : Wd w0 wr q b c t v f vs out) : wr.frozen? ⟨q, 0, none⟩ = false ∧ wr.frozen? ⟨q, 1, none⟩ = false ∧ wr.frozen? ⟨q, 2, none⟩ = false := ⟨h.fb.free 0, h.fb.free 1, h.fb.free 2⟩
theorem Wd.zcells (h : Wd w0 wr q b c t v f vs out) : wr.cell? ⟨w0.heap.size + 1, 0, none⟩ = some (.int .i64 0) ∧ wr.cell? ⟨w0.heap.size + 1, 1, none⟩ = some (.int .i64 0) ∧ wr.cell? ⟨w0.heap.size + 1, 2, none⟩ = some (.int .i64 0) :=
  ⟨(h.zb.cell 0).trans rfl, (h.zb.cell 1).trans rfl, (h.zb.cell 2).trans rfl⟩
theorem Wd.zfree (h : Wd w0 wr q b c t v f vs out) : wr.frozen? ⟨w0.heap.size + 1, 0, none⟩ = false ∧ wr.frozen? ⟨w0.heap.size + 1, 1, none⟩ = false ∧ wr.frozen? ⟨w0.heap.size + 1, 2, none⟩ = false := ⟨h.zb.free 0, h.zb.free 1, h.zb.free 2⟩
theorem Wd.app {vs' : Value} {x : Int} (h : Wd w0 wr q b c t v f vs out) (ho : w1.ownsRow (q + 1) 3 1 vs' (out.length + 1) (out.map (Value.int .i64) ++ [Value.int .i64 x])) {o : Obj} (hg : (wr.alloc o).grownBy w1 vs.ownBlock) : Wd w0 w1 q b c t v f vs' (out ++ [x]) := by
  have hlt := h.ow.lt
  have hq := h.hq
  have hN := h.bel.size
  have keep : ∀ {g : Nat} {t : TypeId} {cs : Array Value}, Bx wr g t cs → g ≤ q → Bx w1 g t cs := by
    intro g t cs hB hgq
    have h1 : Bx (wr.alloc o) g t cs := (Below.heap_alloc wr o g hB.lt).trans hB
    refine (hg.block g h1.lt (fun e => ?_)).trans h1
    have := (hlt g e.symm).1
    omega
  refine ⟨(h.bel.alloc hN o).grown hg (by simp; omega) (fun k hk => ?_), h.hq, keep h.rb (by omega), keep h.zb (by omega), keep h.fb (Nat.le_refl _), by simpa using ho⟩
  have := (hlt k hk).1
  omega
end
theorem add_bel (a b : Int) (w : World) : Calls Try.prog 29 #[.int .i64 a, .int .i64 b] w fun e w' => e = .returned (.tuple #[.int .i64 (adS a b).1, .int .i64 (adS a b).2]) ∧ Below w.heap.size w w' :=
  (add_any a b w).mono fun e w' ⟨h1, h2⟩ => ⟨h1, by rw [h2]; exact b1 _ _⟩

/-- a slice value of n numbers reads as the list zs -/
def Ri (w : World) (B : Nat) (A : Option Addr) (n : Nat) (zs : List Int) : Prop :=
  zs.length = n ∧ n ≤ 9223372036854775807 ∧ (0 < n → ∃ b off, A = some ⟨b, off, none⟩ ∧ b < B ∧ ∀ i, i < n → w.cell? ⟨b, off + i, none⟩ = some (.int .i64 (zs.getD i 0)))
theorem Ri.below {w w' : World} {B B' : Nat} {A : Option Addr} {n : Nat} {zs : List Int} (h : Ri w B A n zs) (hb : Below B' w w') (hB : B ≤ B') : Ri w' B A n zs := by
  refine ⟨h.1, h.2.1, fun hn => ?_⟩
  obtain ⟨b, off, e, hlt, hc⟩ := h.2.2 hn
  exact ⟨b, off, e, hlt, fun i hi => (hb.cell (p := ⟨b, _, none⟩) (by show b < B'; omega)).trans (hc i hi)⟩
theorem Ri.at_ {w : World} {B : Nat} {A : Option Addr} {n : Nat} {zs : List Int} (h : Ri w B A n zs) {i : Nat} (hi : i < n) : ∃ b off, A = some ⟨b, off, none⟩ ∧ b < B ∧ w.cell? ⟨b, off + i, none⟩ = some (.int .i64 (zs.getD i 0)) := by
  obtain ⟨b, off, e, hb, hc⟩ := h.2.2 (by omega)
  exact ⟨b, off, e, hb, hc i hi⟩
/-- a slice value of n bools reads as the list zs -/
def Rb (w : World) (B : Nat) (A : Option Addr) (n : Nat) (zs : List Bool) : Prop :=
  zs.length = n ∧ n ≤ 9223372036854775807 ∧ (0 < n → ∃ b off, A = some ⟨b, off, none⟩ ∧ b < B ∧ ∀ i, i < n → w.cell? ⟨b, off + i, none⟩ = some (.bool (zs.getD i false)))
theorem Rb.below {w w' : World} {B B' : Nat} {A : Option Addr} {n : Nat} {zs : List Bool} (h : Rb w B A n zs) (hb : Below B' w w') (hB : B ≤ B') : Rb w' B A n zs := by
  refine ⟨h.1, h.2.1, fun hn => ?_⟩
  obtain ⟨b, off, e, hlt, hc⟩ := h.2.2 hn
  exact ⟨b, off, e, hlt, fun i hi => (hb.cell (p := ⟨b, _, none⟩) (by show b < B'; omega)).trans (hc i hi)⟩
theorem Rb.at_ {w : World} {B : Nat} {A : Option Addr} {n : Nat} {zs : List Bool} (h : Rb w B A n zs) {i : Nat} (hi : i < n) : ∃ b off, A = some ⟨b, off, none⟩ ∧ b < B ∧ w.cell? ⟨b, off + i, none⟩ = some (.bool (zs.getD i false)) := by
  obtain ⟨b, off, e, hb, hc⟩ := h.2.2 (by omega)
  exact ⟨b, off, e, hb, hc i hi⟩
end Go.Proofs.Ytodkcnhdiddbkaa.Wk
