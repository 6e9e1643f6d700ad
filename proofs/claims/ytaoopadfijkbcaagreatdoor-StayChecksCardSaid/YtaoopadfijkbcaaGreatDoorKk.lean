/- What is read of a table. No condition. -/
import Derived.Test.YtaoopadfijkbcaaGreatDoorTy
set_option linter.unusedSimpArgs false
set_option linter.unusedVariables false
namespace Go.Proofs.YtaoopadfijkbcaaGreatDoor.Wk
open Go Go.RowKit Go.Proofs.YtaoopadfijkbcaaGreatDoor.Av
def pwL : List Int := [1, 10, 100, 1000, 10000, 100000, 1000000, 10000000, 100000000, 1000000000, 10000000000, 100000000000, 1000000000000, 10000000000000, 100000000000000, 1000000000000000, 10000000000000000, 100000000000000000, 1000000000000000000, 10000000000000000000]
def KP (w : World) (_ : Nat → Nat) : Prop := 3 < w.heap.size ∧ ∀ i, i < 20 → w.cell? ⟨3, i, none⟩ = some (.int .u64 (pwL.getD i 0))
theorem kpst : KSt KP := kst_w (T := fun w => 3 < w.heap.size ∧ ∀ i, i < 20 → w.cell? ⟨3, i, none⟩ = some (.int .u64 (pwL.getD i 0))) (fun w w' h hb => ⟨Nat.lt_of_lt_of_le h.1 hb.size, fun i hi => (hb.cell (p := ⟨3, i, none⟩) h.1).trans (h.2 i hi)⟩)
def TB (g o : Nat) : Option Value := bif Nat.beq g 3 then (pwL[o]?).map (fun x => .int .u64 x) else none
theorem TB_ok {w : World} {U : Nat → Nat} (h : KP w U) : ∀ g o v, TB g o = some v → w.cell? ⟨g, o, none⟩ = some v := by
  intro g o v ht
  unfold TB at ht
  cases hb : Nat.beq g 3 with
  | false => rw [hb] at ht; cases ht
  | true =>
    rw [hb, cond_true] at ht
    have hg := Nat.eq_of_beq_eq_true hb
    subst hg
    obtain ⟨x, hx, rfl⟩ := Option.map_eq_some_iff.1 ht
    have ho : o < 20 := by simpa [pwL] using (List.getElem?_eq_some_iff.1 hx).1
    rw [h.2 o ho, List.getD_eq_getElem?_getD, hx]; rfl

end Go.Proofs.YtaoopadfijkbcaaGreatDoor.Wk
