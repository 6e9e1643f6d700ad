/- The byte that an escape stands for. Condition: none. -/
import Derived.Test.YtgfbgkoifcacdaaDoorOPl
set_option linter.unusedSimpArgs false
set_option linter.unusedVariables false
namespace Go.Proofs.YtgfbgkoifcacdaaDoor.Om
theorem dgB_in (x : Int) : -1 ≤ dgB x ∧ dgB x ≤ 15 := by unfold dgB; split <;> (try split) <;> omega
theorem or_at : ∀ a b : Fin 16, bits BinOp.or IntKind.i64 ((a.val : Int) * 16) (b.val : Int) = 16 * (a.val : Int) + (b.val : Int) := by decide +kernel
theorem or_is {a b : Int} (h0 : 0 ≤ a) (h1 : a ≤ 15) (h2 : 0 ≤ b) (h3 : b ≤ 15) : bits BinOp.or IntKind.i64 (a * 16) b = 16 * a + b := by
  have h := or_at ⟨a.toNat, by omega⟩ ⟨b.toNat, by omega⟩
  simp only at h
  rw [show ((a.toNat : Nat) : Int) = a from by omega, show ((b.toNat : Nat) : Int) = b from by omega] at h
  exact h
/-- an escape's form, and its byte -/
def EsF (s : ByteArray) : Prop := 3 ≤ s.size ∧ bt s 0 = 37 ∧ 0 ≤ dgB (bt s 1) ∧ 0 ≤ dgB (bt s 2)
instance (s : ByteArray) : Decidable (EsF s) := by unfold EsF; infer_instance
def esV (s : ByteArray) : Int := 16 * dgB (bt s 1) + dgB (bt s 2)
def esC (s : ByteArray) : Int := if EsF s then esV s else 0
def esB (s : ByteArray) : Bool := if EsF s then !plB (esV s) else false
end Go.Proofs.YtgfbgkoifcacdaaDoor.Om
