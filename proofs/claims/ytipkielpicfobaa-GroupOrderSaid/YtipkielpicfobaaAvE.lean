/- Rules for states of data. Conditions: as each theorem names them. -/
import Derived.Test.YtipkielpicfobaaAvD
import Derived.Shelf.GgSortFunc.InsertionK
import Derived.Sort.Statements
set_option linter.unusedSimpArgs false
set_option linter.unusedVariables false
namespace Go.Proofs.Ytipkielpicfobaa.Av
open Go Go.RowKit
def SortOk (P : Program) (f g : FuncId) {α : Type} (z : Nat) (enc : α → List Value) (lt : α → α → Bool) : Prop :=
  (∀ (b c : Nat) (l : List α) (w : World) (cur : Array Value) (e : TypeId), w.heap[b]? = some (.cells cur e (0, 0)) → l.length ≤ c → c ≤ maxLen → l.length < 4611686018427387904 → cur.size = c * z → cur.toList.take (l.length * z) = (l.map enc).flatten →
    Calls P f #[.slice (some ⟨b, 0, none⟩) l.length c, .func (.func g) #[] #[]] w fun ex w' => ex = .returned (.tuple #[]) ∧ ∃ (l' : List α) (cur' : Array Value), l'.Perm l ∧ l'.Pairwise (fun x y => lt y x = false) ∧
      w'.heap[b]? = some (.cells cur' e (0, 0)) ∧ cur'.size = cur.size ∧ cur'.toList.take (l.length * z) = (l'.map enc).flatten ∧ (∀ k, k < w.heap.size → k ≠ b → w'.heap[k]? = w.heap[k]?) ∧ w.heap.size ≤ w'.heap.size ∧ w'.os = w.os ∧ w'.tape = w.tape ∧ w'.output = w.output) ∧
  ∀ w : World, Calls P f #[.slice none 0 0, .func (.func g) #[] #[]] w fun ex w' => ex = .returned (.tuple #[]) ∧ w' = w
section
variable {P : Program} {N : Nat} {w0 : World} {U0 : Nat → Nat}
end
end Go.Proofs.Ytipkielpicfobaa.Av

namespace Go.Proofs.Ytipkielpicfobaa.Av
open Go Go.RowKit Go.Sort
theorem flatK_list {α : Type} [Inhabited α] {enc : α → List Value} {z : Nat} (hz : ∀ x, (enc x).length = z) (d : Array α) : (flatK enc z d).toList = (d.toList.map enc).flatten := by
  have hrz : ∀ r ∈ d.toList.map enc, r.length = z := fun r hr => by obtain ⟨x, _, rfl⟩ := List.mem_map.1 hr; exact hz x
  have hlen : ((d.toList.map enc).flatten).length = d.size * z := by rw [flat_len hrz]; simp
  apply List.ext_getElem?
  intro t
  rcases Nat.lt_or_ge t (d.size * z) with ht | ht
  · have z0 : 0 < z := by
      rcases Nat.eq_zero_or_pos z with h | h
      · subst h; simp at ht
      · exact h
    have hi : t / z < d.size := Nat.div_lt_of_lt_mul (by rw [Nat.mul_comm]; exact ht)
    have hj : t % z < z := Nat.mod_lt _ z0
    have hjl : t % z < (enc d[t / z]).length := by rw [hz]; exact hj
    have h1 := flat_get hrz (i := t / z) (j := t % z) (r := enc d[t / z]) (x := (enc d[t / z])[t % z]) (by simp [hi]) (List.getElem?_eq_getElem hjl)
    have e : t / z * z + t % z = t := Nat.div_add_mod' t z
    rw [e] at h1
    rw [h1.1]
    have h2 := get_flatK enc z d t ht
    have hs : t < (flatK enc z d).size := by simpa using ht
    rw [Array.getElem?_toList, Array.getElem?_eq_getElem hs, ← getElem!_pos (flatK enc z d) t hs, h2]
    congr 1
    rw [getElem!_pos d (t / z) hi, getElem!_pos (enc d[t / z]) (t % z) hjl]
  · rw [List.getElem?_eq_none (by simpa using ht), List.getElem?_eq_none (by rw [hlen]; exact ht)]
theorem take_putCells_id {F cur : Array Value} (h : F.size ≤ cur.size) : (putCells id 0 F cur).toList.take F.size = F.toList := by
  apply List.ext_getElem?
  intro t
  rcases Nat.lt_or_ge t F.size with ht | ht
  · rw [List.getElem?_take_of_lt ht, Array.getElem?_toList, Array.getElem?_toList]
    simp [putCells, show t < cur.size by omega, ht]
  · rw [List.getElem?_eq_none (by simp; omega), List.getElem?_eq_none (by simpa using ht)]
end Go.Proofs.Ytipkielpicfobaa.Av

namespace Go.Proofs.Ytipkielpicfobaa.Av
open Go Go.RowKit
def SortOkC (P : Program) (f g : FuncId) (caps : List DV) {α : Type} (z : Nat) (enc : α → List Value) (lt : α → α → Bool) : Prop :=
  ∀ (cv : Array Value) (U : Nat → Nat),
  (∀ (b c : Nat) (l : List α) (w : World) (cur : Array Value) (e : TypeId), U b = 0 → Rds w U cv.toList caps → w.heap[b]? = some (.cells cur e (0, 0)) → l.length ≤ c → c ≤ maxLen → l.length < 4611686018427387904 → cur.size = c * z → cur.toList.take (l.length * z) = (l.map enc).flatten →
    Calls P f #[.slice (some ⟨b, 0, none⟩) l.length c, .func (.func g) #[] cv] w fun ex w' => ex = .returned (.tuple #[]) ∧ ∃ (l' : List α) (cur' : Array Value), l'.Perm l ∧ l'.Pairwise (fun x y => lt y x = false) ∧
      w'.heap[b]? = some (.cells cur' e (0, 0)) ∧ cur'.size = cur.size ∧ cur'.toList.take (l.length * z) = (l'.map enc).flatten ∧ (∀ k, k < w.heap.size → k ≠ b → w'.heap[k]? = w.heap[k]?) ∧ w.heap.size ≤ w'.heap.size ∧ w'.os = w.os ∧ w'.tape = w.tape ∧ w'.output = w.output) ∧
  ∀ w : World, Calls P f #[.slice none 0 0, .func (.func g) #[] cv] w fun ex w' => ex = .returned (.tuple #[]) ∧ w' = w
section
variable {P : Program} {N : Nat} {w0 : World} {U0 : Nat → Nat}
end
end Go.Proofs.Ytipkielpicfobaa.Av

namespace Go.Proofs.Ytipkielpicfobaa.Av
open Go Go.RowKit Go.Sort
end Go.Proofs.Ytipkielpicfobaa.Av

namespace Go.Proofs.Ytipkielpicfobaa.Av
open Go Go.RowKit
section
variable {P : Program} {N : Nat} {w0 : World} {U0 : Nat → Nat}
end
end Go.Proofs.Ytipkielpicfobaa.Av
