/- Own rows of structures: make and copy. Conditions: as each theorem names them. -/
import Derived.Test.YtipkielpicfobaaAvD
set_option linter.unusedSimpArgs false
set_option linter.unusedVariables false
namespace Go.Proofs.Ytipkielpicfobaa.Av
open Go Go.RowKit
theorem rc_ofF {w : World} {U : Nat → Nat} {ys : List Value} (h : ∀ v ∈ ys, v.oneCell' = true) : Rc w U ys (ys.map DV.fl) := by
  refine ⟨⟨by simp, fun j u d hu hdv => ?_⟩, h⟩
  simp only [List.getElem?_map, Option.map_eq_some_iff] at hdv
  obtain ⟨z', hz', rfl⟩ := hdv
  rw [hu] at hz'; cases hz'
  exact .fl _
section
variable {P : Program} {N : Nat} {w0 : World} {U0 : Nat → Nat}
end
end Go.Proofs.Ytipkielpicfobaa.Av
