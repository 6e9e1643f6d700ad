/- What a call that appends to a row handed in keeps: every block but the row's own; trees read in the world where both were built. No condition. -/
import Derived.Test.YtbhdghopdhehdaaGr
import Derived.Test.YtbhdghopdhehdaaDmath
set_option linter.unusedSimpArgs false
set_option linter.unusedVariables false
namespace Go.Proofs.Ytbhdghopdhehdaa.Mt
theorem dv_len (a b : List Int) : ∀ (k i : Nat) (f : List Int × Nat), (dv a b k i f).1.length ≤ f.1.length + 2 ^ k := by
  intro k
  induction k with
  | zero => intro i f; rw [dv]; split <;> simp
  | succ k ih =>
    intro i f
    rw [dv]
    have h2 : 2 ^ (k + 1) = 2 ^ k + 2 ^ k := by rw [Nat.pow_succ]; omega
    have h5 : 1 ≤ 2 ^ k := Nat.one_le_two_pow
    split
    · exact Nat.le_trans (ih _ _) (by omega)
    · split
      · simp
      · have h3 := ih (2 * i + 1) (dv a b k (2 * i) (f.1, f.2 + 1))
        have h4 := ih (2 * i) (f.1, f.2 + 1)
        simp only at h4
        omega
theorem dv_num (a b : List Int) : ∀ (k i : Nat) (f : List Int × Nat), (dv a b k i f).2 + 1 ≤ f.2 + 2 ^ (k + 1) := by
  intro k
  induction k with
  | zero => intro i f; rw [dv]; split <;> simp
  | succ k ih =>
    intro i f
    rw [dv]
    have h2 : 2 ^ (k + 1 + 1) = 2 ^ (k + 1) + 2 ^ (k + 1) := by rw [Nat.pow_succ]; omega
    have h5 : 1 ≤ 2 ^ (k + 1) := Nat.one_le_two_pow
    split
    · have := ih (2 * i) f; omega
    · split
      · simp only; omega
      · have h3 := ih (2 * i + 1) (dv a b k (2 * i) (f.1, f.2 + 1))
        have h4 := ih (2 * i) (f.1, f.2 + 1)
        simp only at h4
        omega
theorem dv_in (a b : List Int) : ∀ (k i : Nat) (f : List Int × Nat), i < abn a.length k → (∀ x ∈ f.1, 0 ≤ x ∧ x < a.length) → ∀ x ∈ (dv a b k i f).1, 0 ≤ x ∧ x < a.length := by
  intro k
  induction k with
  | zero =>
    intro i f hi hf x hx
    rw [dv] at hx
    have hi : i < a.length := hi
    split at hx
    · exact hf x hx
    · rcases List.mem_append.1 hx with h | h
      · exact hf x h
      · have : x = (i : Int) := by simpa using h
        omega
  | succ k ih =>
    intro i f hi hf x hx
    rw [dv] at hx
    rw [abn_next] at hi
    split at hx
    · exact ih (2 * i) f (by unfold ab at hi; omega) hf x hx
    · split at hx
      · exact hf x hx
      · exact ih (2 * i + 1) (dv a b k (2 * i) (f.1, f.2 + 1)) (by omega) (ih (2 * i) (f.1, f.2 + 1) (by omega) hf) x hx
end Go.Proofs.Ytbhdghopdhehdaa.Mt
namespace Go.Proofs.Ytbhdghopdhehdaa.Wk
open Go.RowKit
open Go.Proofs.Ytbhdghopdhehdaa.Mt
/-- all blocks but the row's own are kept; the new row lies in the old one's block or in a new one -/
def Kp (w w' : World) (v v' : Value) : Prop := w.heap.size ≤ w'.heap.size ∧ (∀ g, g < w.heap.size → v.ownBlock ≠ some g → w'.heap[g]? = w.heap[g]?) ∧ (∀ g, v'.ownBlock = some g → v.ownBlock = some g ∨ w.heap.size ≤ g)
theorem Kp.refl (w : World) (v : Value) : Kp w w v v := ⟨Nat.le_refl _, fun _ _ _ => rfl, fun _ h => .inl h⟩
theorem Kp.trans {w w1 w2 : World} {v v1 v2 : Value} (h : Kp w w1 v v1) (k : Kp w1 w2 v1 v2) : Kp w w2 v v2 := by
  refine ⟨Nat.le_trans h.1 k.1, fun g hg hne => ?_, fun g hg => ?_⟩
  · refine (k.2.1 g (Nat.lt_of_lt_of_le hg h.1) fun e => ?_).trans (h.2.1 g hg hne)
    rcases h.2.2 g e with h1 | h1
    · exact hne h1
    · omega
  · rcases k.2.2 g hg with h1 | h1
    · exact h.2.2 g h1
    · exact .inr (Nat.le_trans h.1 h1)
theorem Kp.of {w w' : World} (v : Value) (h : Below w.heap.size w w') : Kp w w' v v := ⟨h.size, fun g hg _ => h.block g hg, fun _ h => .inl h⟩
theorem Kp.app {w wr w9 : World} {v v1 : Value} {o : Obj} {g n cap : Nat} (h : Kp w wr v v1) (hg : (wr.alloc o).grownBy w9 v1.ownBlock) (hat : v1.ownBlock = some g ∨ g = wr.heap.size + 1) : Kp w w9 v (.slice (some ⟨g, 0, none⟩) n cap) := by
  refine h.trans ⟨?_, fun k hk hne => ?_, fun k hk => ?_⟩
  · have := hg.size; simp at this; omega
  · exact (hg.block k (by simp; omega) (fun e => hne e.symm)).trans (Below.heap_alloc _ _ _ hk)
  · have hk : some g = some k := hk
    injection hk with hk
    subst hk
    rcases hat with h1 | h1
    · exact .inl h1
    · exact .inr (by omega)
theorem Kp.set {w wr : World} {v v1 : Value} (h : Kp w wr v v1) {g : Nat} (hg : w.heap.size ≤ g) (i : Nat) (u : Value) : Kp w (wr.setCell ⟨g, i, none⟩ u) v v1 :=
  ⟨by simpa [World.setCell] using h.1, fun k hk hne => (Below.heap_setCell _ _ _ _ (show k ≠ g by omega)).trans (h.2.1 k hk hne), h.2.2⟩
theorem Kp.bx {w w' : World} {v v' : Value} {g : Nat} {t : TypeId} {cs : Array Value} (h : Kp w w' v v') (hx : Bx w g t cs) (hne : v.ownBlock ≠ some g) : Bx w' g t cs := (h.2.1 g hx.lt hne).trans hx
theorem Kp.off {w w' : World} {v v' : Value} {g : Nat} (h : Kp w w' v v') (hg : g < w.heap.size) (hne : v.ownBlock ≠ some g) : v'.ownBlock ≠ some g := by
  intro e
  rcases h.2.2 g e with h1 | h1
  · exact hne h1
  · omega
theorem own_off {w : World} {base : Nat} {e : TypeId} {size : Nat} {v : Value} {n : Nat} {xs : List Value} (h : w.ownsRow base e size v n xs) {g : Nat} (hg : v.ownBlock ≠ some g) (i : Nat) (u : Value) : (w.setCell ⟨g, i, none⟩ u).ownsRow base e size v n xs := by
  refine ⟨h.1, ?_⟩
  rcases h.2 with h2 | ⟨g', cap, cur, hv, hb, hh, r⟩
  · exact .inl h2
  · refine .inr ⟨g', cap, cur, hv, hb, ?_, r⟩
    rw [Below.heap_setCell _ _ _ _ (fun e => hg (by rw [hv]; exact congrArg some e))]
    exact hh
theorem Ow.set {k : IntKind} {t : TypeId} {base : Nat} {w0 wr : World} {v : Value} {xs : List Int} (h : Ow k t base w0 wr v xs) {g : Nat} (hb : base ≤ g) (hg : v.ownBlock ≠ some g) (i : Nat) (u : Value) : Ow k t base w0 (wr.setCell ⟨g, i, none⟩ u) v xs :=
  ⟨h.1, h.2.1.setCell (p := ⟨g, i, none⟩) hb u, own_off h.2.2 hg i u⟩
theorem Ow.al {k : IntKind} {t : TypeId} {base : Nat} {w0 wr : World} {v : Value} {xs : List Int} (h : Ow k t base w0 wr v xs) (o : Obj) : Ow k t base w0 (wr.alloc o) v xs := h.below (b1 _ _)
theorem Ow.lt {k : IntKind} {t : TypeId} {base : Nat} {w0 wr : World} {v : Value} {xs : List Int} (h : Ow k t base w0 wr v xs) {g : Nat} (hg : wr.heap.size ≤ g) : v.ownBlock ≠ some g := fun e => by have := (h.2.2.lt g e).2; omega
/-- the levels up to k of a tree, in the world where it was built -/
def Tr (w0 : World) (A : Option Addr) (n : Nat) (l : List Int) (k : Nat) : Prop :=
  ∃ b off, A = some ⟨b, off, none⟩ ∧ b < w0.heap.size ∧ ∀ q, q ≤ k → ∃ Aq cq, w0.cell? ⟨b, off + q, none⟩ = some (.slice Aq (abn n q) cq) ∧ Rk .u64 w0 w0.heap.size Aq (abn n q) (upn l q)
theorem Tr.low {w0 : World} {A : Option Addr} {n : Nat} {l : List Int} {k : Nat} (h : Tr w0 A n l (k + 1)) : Tr w0 A n l k := by
  obtain ⟨b, off, e, hb, hq⟩ := h
  exact ⟨b, off, e, hb, fun q h => hq q (by omega)⟩
theorem Tr.at {w0 wr : World} {b off n : Nat} {l : List Int} {k q i : Nat} (h : Tr w0 (some ⟨b, off, none⟩) n l k) (hb : Below w0.heap.size w0 wr) (hq : q ≤ k) : ∃ Aq cq, wr.cell? ⟨b, off + q, none⟩ = some (.slice Aq (abn n q) cq) ∧ (i < abn n q → ∃ b2 off2, Aq = some ⟨b2, off2, none⟩ ∧ wr.cell? ⟨b2, off2 + i, none⟩ = some (.int .u64 (iat (upn l q) i))) := by
  obtain ⟨b', off', e, hlt, h2⟩ := h
  injection e with e
  injection e with e1 e2
  subst e1 e2
  obtain ⟨Aq, cq, h3, h4⟩ := h2 q hq
  refine ⟨Aq, cq, (hb.cell (p := ⟨b, _, none⟩) hlt).trans h3, fun hi => ?_⟩
  obtain ⟨b2, off2, e2, hl2, h5⟩ := h4.get hi
  exact ⟨b2, off2, e2, (hb.cell (p := ⟨b2, _, none⟩) hl2).trans h5⟩
end Go.Proofs.Ytbhdghopdhehdaa.Wk
