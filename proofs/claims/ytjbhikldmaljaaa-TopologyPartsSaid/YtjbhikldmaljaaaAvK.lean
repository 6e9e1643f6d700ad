/- Two calls one after another, the first hands the second a closure over a new block: slices.Sorted(maps.Keys(m)). Conditions: as each theorem names them. -/
import Derived.Test.YtjbhikldmaljaaaAvE
import Derived.Sort.KeysCollected
import Derived.StringKeys
import Derived.Lib.SmallJoins
set_option linter.unusedSimpArgs false
set_option linter.unusedVariables false
namespace Go.Proofs.Ytjbhikldmaljaaa.Av
open Go Go.RowKit Go.Maps Go.Sort
def boxF (kf : FuncId) (B : Nat) : Value := .func (.func kf) #[] #[.pointer (some ⟨B, 0, none⟩)]
def CtrF (P : Program) (f : FuncId) (d : DV) (kf : FuncId) : Prop :=
  ∀ (v : Value) (U : Nat → Nat) (w : World), Rd w U v d → Calls P f #[v] w fun e w' => ∃ B U', e = .returned (boxF kf B) ∧ Below w.heap.size w w' ∧ (∀ b, b < w.heap.size → U' b = U b) ∧ Rd w' U' (boxF kf B) (.fn kf [.el [d]])
def CtrV (P : Program) (f : FuncId) (kf : FuncId) (d : DV) (r : RO) : Prop :=
  ∀ (B : Nat) (U : Nat → Nat) (w : World), Rd w U (boxF kf B) (.fn kf [.el [d]]) → Calls P f #[boxF kf B] w fun e w' => ∃ v U', e = .returned v ∧ Below w.heap.size w w' ∧ (∀ b, b < w.heap.size → U' b = U b) ∧ RresO w' U' w.heap.size v r
section
variable {P : Program} {N : Nat} {w0 : World} {U0 : Nat → Nat}
end
open Go.WideElems (Fit rd rg rd_mk rg_of)
def KeysG (P : Program) (fK kf : FuncId) (T : TypeId) : Prop := ∀ (mb : Option Nat) (W : World), Calls P fK #[.map mb] W fun e w' => e = .returned (boxF kf W.heap.size) ∧ w' = W.alloc (.cells #[.map mb] T)
def SortedG (P : Program) (fS kf : FuncId) (kt et : TypeId) : Prop := ∀ (B b nn : Nat) (D0 : DataW Unit) (R : Value → Option (DataW Unit × List MemPlace)) (w : World), w.cell? ⟨B, 0, none⟩ = some (.map (some b)) → B < w.heap.size → w.ownsMap P kt R b nn D0 → Maps.size D0 ≤ maxLen → Maps.size D0 * 16 ≤ 140737488355328 →
  Calls P fS #[boxF kf B] w fun e w' => ∃ (v : Value) (ss : List (List UInt8)), e = .returned v ∧ ss.Perm (strKeys D0) ∧ w'.ownsRow w.heap.size et 1 v ss.length ((ss.mergeSort (fun x y => decide (x ≤ y))).map encStr) ∧ (v = .slice none 0 0 ↔ ss = []) ∧ Below w.heap.size w w'
def leK (x y : List UInt8) : Bool := decide (x ≤ y)
def srtS (l : List ByteArray) : List ByteArray := ((l.map fun s => s.data.toList).mergeSort fun x y => decide (x ≤ y)).map fun x => ⟨x.toArray⟩
theorem srtS_perm (l : List ByteArray) : (srtS l).Perm l := by
  have h := ((List.mergeSort_perm (l.map fun s => s.data.toList) fun x y => decide (x ≤ y)).map fun x => (⟨x.toArray⟩ : ByteArray))
  rw [List.map_map] at h
  have e : l.map ((fun x => (⟨x.toArray⟩ : ByteArray)) ∘ fun s => s.data.toList) = l := by
    have : ((fun x : List UInt8 => (⟨x.toArray⟩ : ByteArray)) ∘ fun s : ByteArray => s.data.toList) = id := by funext s; rfl
    rw [this, List.map_id]
  rw [e] at h
  exact h
end Go.Proofs.Ytjbhikldmaljaaa.Av
