/- Rows of strings: read, and of the call's own; whether two lists of strings are equal. Conditions: the slices read as lists. -/
import Derived.Test.YtgfbgkoifcacdaaDoorOBase
import Derived.Handy
set_option linter.unusedSimpArgs false
set_option linter.unusedVariables false
namespace Go.Proofs.YtgfbgkoifcacdaaDoor.Om
open Go
def sat (l : List ByteArray) (i : Nat) : ByteArray := l.getD i ⟨#[]⟩
def vst (l : List ByteArray) : List Go.Value := l.map Go.Value.string
theorem vst_app (a b : List ByteArray) : vst (a ++ b) = vst a ++ vst b := List.map_append
theorem vst_at (l : List ByteArray) (i : Nat) (h : i < l.length) : (vst l)[i]? = some (.string (sat l i)) := by simp [vst, sat, h]
theorem vst_one (l : List ByteArray) : ∀ u ∈ vst l, u.oneCell' = true := by
  intro u hu
  simp only [vst, List.mem_map] at hu
  obtain ⟨_, _, rfl⟩ := hu
  rfl
end Go.Proofs.YtgfbgkoifcacdaaDoor.Om
namespace Go.Proofs.YtgfbgkoifcacdaaDoor.Ow
open Go.RowKit
open Go.Proofs.YtgfbgkoifcacdaaDoor.Om
theorem str_info : (Tryd.prog.info? 9).map (fun i => (i.zero, i.size, i.bytes)) = some (some (.string ⟨#[]⟩), 1, 16) := by kernel_rfl
/-- a slice value of n strings reads as the list l -/
def Rs (w : World) (B : Nat) (A : Option Addr) (n : Nat) (l : List ByteArray) : Prop :=
  l.length = n ∧ n ≤ 9223372036854775807 ∧ (0 < n → ∃ b off, A = some ⟨b, off, none⟩ ∧ b < B ∧ ∀ i, i < n → w.cell? ⟨b, off + i, none⟩ = some (.string (sat l i)))
theorem Rs.up {w w' : World} {A : Option Addr} {n : Nat} {l : List ByteArray} (h : Rs w w.heap.size A n l) (hb : Below w.heap.size w w') : Rs w' w'.heap.size A n l := by
  refine ⟨h.1, h.2.1, fun hn => ?_⟩
  obtain ⟨b, off, e, hlt, hc⟩ := h.2.2 hn
  exact ⟨b, off, e, Nat.lt_of_lt_of_le hlt hb.size, fun i hi => (hb.cell (p := ⟨b, _, none⟩) hlt).trans (hc i hi)⟩
theorem rs_none (w : World) (B : Nat) : Rs w B none 0 [] := ⟨rfl, by omega, fun h => by omega⟩
/-- v owns its row of strings, from block base on -/
def Os (base : Nat) (w : World) (v : Value) (l : List ByteArray) : Prop := w.ownsRow base 9 1 v l.length (vst l)
theorem Os.nil (base : Nat) (w : World) : Os base w (.slice none 0 0) [] := World.ownsRow_nil _ _ _ _
theorem Os.keep {base : Nat} {w w' : World} {v : Value} {l : List ByteArray} (h : Os base w v l) (hk : ∀ k, base ≤ k → k < w.heap.size → w'.heap[k]? = w.heap[k]?) : Os base w' v l := by
  refine ⟨h.1, ?_⟩
  rcases h.2 with h0 | ⟨g, cap, cur, h1, h2, h3, h4⟩
  · exact .inl h0
  · have hlt : g < w.heap.size := (Array.getElem?_eq_some_iff.1 h3).1
    exact .inr ⟨g, cap, cur, h1, h2, (hk g h2 hlt).trans h3, h4⟩
theorem Os.iterAt {base k pos : Nat} {w : World} {v : Value} {l : List ByteArray} {s : ByteArray} (h : Os base w v l) (hk : k < base) : Os base (w.iterAt k s pos) v l :=
  h.keep (fun j hj _ => Lib.iterAt_other w k j s pos (by omega))
theorem Os.out {base : Nat} {w : World} {v : Value} {l : List ByteArray} (h : Os base w v l) (hl : l.length ≤ 9223372036854775807) : ∃ A c, v = .slice A l.length c ∧ l.length ≤ c ∧ Rs w w.heap.size A l.length l := by
  rcases Nat.eq_zero_or_pos l.length with h0 | h0
  · rcases h.2 with ⟨e, _⟩ | ⟨g, cap, cur, e, _⟩
    · exact ⟨none, 0, by rw [h0]; exact e, by omega, rfl, hl, fun h => by omega⟩
    · exact ⟨_, cap, e, by omega, rfl, hl, fun h => by omega⟩
  · rcases h.2 with ⟨_, h2⟩ | ⟨g, cap, cur, e, hb, hg, hc, hm, hs, ht⟩
    · omega
    · refine ⟨_, cap, e, hc, rfl, hl, fun _ => ⟨g, 0, rfl, (Array.getElem?_eq_some_iff.1 hg).1, fun i hi => ?_⟩⟩
      have h1 := vst_at l i hi
      rw [← ht, List.getElem?_take, if_pos (by omega)] at h1
      have c1 := cell_of_row w g i cur 9 (0, 0) hg
      rw [← Array.getElem?_toList] at c1
      rw [Nat.zero_add]
      exact c1.trans h1
theorem new_cell (W : World) (x : Value) (t : TypeId) (n : Nat) (h : n = W.heap.size) : ∀ j u, [x][j]? = some u → (W.alloc (.cells #[x] t)).cell? ((⟨n, 0, none⟩ : Addr).add j) = some u := by
  subst h; exact cell_one_new _ _ _
theorem one_str (x : ByteArray) : ∀ u ∈ [Value.string x], u.oneCell' = true := by
  intro u hu; simp at hu; subst hu; rfl
theorem eq_self_ (s : ByteArray) : (s.toList == s.toList) = true := by simp
end Go.Proofs.YtgfbgkoifcacdaaDoor.Ow
