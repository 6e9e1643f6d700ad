/- The examples, evaluated. Condition: the table of months reads as it is laid. -/
import Derived.Test.YtaapmifdglaehaaDoorEvD
import Derived.Test.YtaapmifdglaehaaDoorDw
import Derived.Test.YtaapmifdglaehaaDoorKk
set_option linter.unusedSimpArgs false
set_option linter.unusedVariables false
namespace Go.Proofs.YtaapmifdglaehaaDoor.Wk
open Go Go.RowKit Go.Proofs.YtaapmifdglaehaaDoor.Av
def mdL : List Int := [31, 28, 31, 30, 31, 30, 31, 31, 30, 31, 30, 31]
def TB (g o : Nat) : Option Value := bif Nat.beq g 0 then (mdL[o]?).map (fun x => .int .i64 x) else none
theorem TB_ok {w : World} (h : Go.Proofs.YtaapmifdglaehaaDoor.Cw.Md w) : ∀ g o v, TB g o = some v → w.cell? ⟨g, o, none⟩ = some v := by
  intro g o v ht
  unfold TB at ht
  cases hb : Nat.beq g 0 with
  | false => rw [hb] at ht; cases ht
  | true =>
    rw [hb, cond_true] at ht
    have hg := Nat.eq_of_beq_eq_true hb
    subst hg
    obtain ⟨x, hx, rfl⟩ := Option.map_eq_some_iff.1 ht
    have ho : o < 12 := by simpa [mdL] using (List.getElem?_eq_some_iff.1 hx).1
    have hm : ∀ i : Fin 12, mdL[i.val]? = some (Go.Proofs.YtaapmifdglaehaaDoor.Cm.md i.val) := by decide
    have := hm ⟨o, ho⟩
    simp only at this
    rw [hx] at this
    injection this with this
    rw [this]
    exact h.2 o ho
theorem alive5 : CtrK Tryd.prog KK 5 [] (.d (.fl (.bool true))) := ctrK_flat [] (fun w U hK => Ev.ev_aliveG (G := TB) (fuel := 2000) (n := 30) (by kernel_rfl) (by kernel_rfl) (by kernel_rfl) w (TB_ok hK))

end Go.Proofs.YtaapmifdglaehaaDoor.Wk
