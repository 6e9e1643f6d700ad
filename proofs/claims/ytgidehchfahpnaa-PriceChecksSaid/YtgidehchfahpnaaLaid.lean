/- The contract of bits.Add64 laid at this program: numbers only. No condition. -/
import Derived.Shelf.Spec.BitsCarry
import Derived.Test.YtgidehchfahpnaaProg
set_option linter.unusedSimpArgs false
set_option linter.unusedVariables false
namespace Go.Proofs
open Go.Shelf
def Try.laysAdd_ren : Go.Shelf.Ren := ⟨fun | 25 => 27 | n => n, fun | 22 => 101 | n => n, fun | n => n⟩
theorem Try.laysAdd : Go.Proofs.Lays7.n25 Try.prog Try.laysAdd_ren := {
  mixed := by kernel_rfl
  f25 := Try.func27.trans (congrArg some (by kernel_rfl))
  t22 := Try.underlying101
  a22 := Try.isAgg101
  z22 := Try.sizeOf101
  v22 := Try.zeroValue101
  i22 := by kernel_rfl }
end Go.Proofs
