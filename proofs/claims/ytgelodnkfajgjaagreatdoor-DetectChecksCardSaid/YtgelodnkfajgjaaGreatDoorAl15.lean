/- The examples, evaluated. No condition. -/
import Derived.Test.YtgelodnkfajgjaaGreatDoorTy
import Derived.Test.YtgelodnkfajgjaaGreatDoorMe1
set_option linter.unusedSimpArgs false
set_option linter.unusedVariables false
set_option maxRecDepth 100000
namespace Go.Proofs.YtgelodnkfajgjaaGreatDoor.Wk
open Go Go.RowKit Go.Proofs.YtgelodnkfajgjaaGreatDoor.Av 
def tabE : List Ev.Ent := [en0, en1, en2, en3, en4, en5, en6, en7, en8, en9, en10, en11, en12, en13]
theorem tabE_ok (hm : Tryz.prog.follows .mixedOrders = true) (hN : (Tryz.prog.funcs.toList.all fun fn => !(fn.name == "runtime.NumGoroutine")) = true) : ∀ e ∈ tabE, ∃ c, Ev.CallOk Tryz.prog (fun _ _ => none) c ∧ Ev.Known c e := by
  intro e he
  have hc := Ev.evF_ok (P := Tryz.prog) hm (Ev.names_of hN) (fun _ _ => none) 2000 29
  simp only [tabE, List.mem_cons, List.not_mem_nil, or_false] at he
  rcases he with rfl | rfl | rfl | rfl | rfl | rfl | rfl | rfl | rfl | rfl | rfl | rfl | rfl | rfl
  · exact ⟨_, hc, kn0⟩
  · exact ⟨_, hc, kn1⟩
  · exact ⟨_, hc, kn2⟩
  · exact ⟨_, hc, kn3⟩
  · exact ⟨_, hc, kn4⟩
  · exact ⟨_, hc, kn5⟩
  · exact ⟨_, hc, kn6⟩
  · exact ⟨_, hc, kn7⟩
  · exact ⟨_, hc, kn8⟩
  · exact ⟨_, hc, kn9⟩
  · exact ⟨_, hc, kn10⟩
  · exact ⟨_, hc, kn11⟩
  · exact ⟨_, hc, kn12⟩
  · exact ⟨_, hc, kn13⟩
theorem alive15 : Ctr Tryz.prog 15 [] (.d (.fl (.bool true))) := ctr_flat [] (fun w => by
  have hm : Tryz.prog.follows .mixedOrders = true := by kernel_rfl
  have hN : (Tryz.prog.funcs.toList.all fun fn => !(fn.name == "runtime.NumGoroutine")) = true := by kernel_rfl
  refine Ev.ev_aliveM hm hN (call := Ev.bodyX Tryz.prog (fun _ _ => none) 2000 (Ev.memo tabE (Ev.evF Tryz.prog (fun _ _ => none) 2000 29))) (Ev.bodyX_ok hm (Ev.names_of hN) _ 2000 (Ev.memo_ok (Ev.evF_ok hm (Ev.names_of hN) _ 2000 29) (tabE_ok hm hN))) ?_ w (fun _ _ _ h => by cases h)
  exact (show Ev.trueC _ _ = true by kernel_rfl))
end Go.Proofs.YtgelodnkfajgjaaGreatDoor.Wk
