/- The examples, evaluated. Condition: the table reads as it is laid. -/
import Derived.Test.YtaoopadfijkbcaaGreatDoorMe1
import Derived.Test.YtaoopadfijkbcaaGreatDoorKk
set_option linter.unusedSimpArgs false
set_option linter.unusedVariables false
namespace Go.Proofs.YtaoopadfijkbcaaGreatDoor.Wk
open Go Go.RowKit Go.Proofs.YtaoopadfijkbcaaGreatDoor.Av
set_option maxRecDepth 100000
def tabE : List Ev.Ent := [en0, en1, en2, en3, en4, en5]
theorem tabE_ok (hm : Tryz.prog.follows .mixedOrders = true) (hN : (Tryz.prog.funcs.toList.all fun fn => !(fn.name == "runtime.NumGoroutine")) = true) : ∀ e ∈ tabE, ∃ c, Ev.CallOk Tryz.prog TB c ∧ Ev.Known c e := by
  intro e he
  have hc := Ev.evF_ok (P := Tryz.prog) hm (Ev.names_of hN) TB 2000 29
  simp only [tabE, List.mem_cons, List.not_mem_nil, or_false] at he
  rcases he with rfl | rfl | rfl | rfl | rfl | rfl
  · exact ⟨_, hc, kn0⟩
  · exact ⟨_, hc, kn1⟩
  · exact ⟨_, hc, kn2⟩
  · exact ⟨_, hc, kn3⟩
  · exact ⟨_, hc, kn4⟩
  · exact ⟨_, hc, kn5⟩
theorem aliveT : CtrK Tryz.prog KP 14 [] (.d (.fl (.bool true))) := ctrK_flat [] (fun w U hK => by
  have hm : Tryz.prog.follows .mixedOrders = true := by kernel_rfl
  have hN : (Tryz.prog.funcs.toList.all fun fn => !(fn.name == "runtime.NumGoroutine")) = true := by kernel_rfl
  refine Ev.ev_aliveM hm hN (call := Ev.bodyX Tryz.prog TB 2000 (Ev.memo tabE (Ev.evF Tryz.prog TB 2000 29))) (Ev.bodyX_ok hm (Ev.names_of hN) _ 2000 (Ev.memo_ok (Ev.evF_ok hm (Ev.names_of hN) _ 2000 29) (tabE_ok hm hN))) ?_ w (TB_ok hK)
  exact (show Ev.trueC _ _ = true by kernel_rfl))

end Go.Proofs.YtaoopadfijkbcaaGreatDoor.Wk
