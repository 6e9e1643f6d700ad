/- The examples, evaluated. No condition. -/
import Derived.Test.YtgelodnkfajgjaaDoorTy
import Derived.Test.YtgelodnkfajgjaaDoorMe1
set_option linter.unusedSimpArgs false
set_option linter.unusedVariables false
set_option maxRecDepth 100000
namespace Go.Proofs.YtgelodnkfajgjaaDoor.Wk
open Go Go.RowKit Go.Proofs.YtgelodnkfajgjaaDoor.Av 
def tabE : List Ev.Ent := [en0, en1, en2, en3, en4, en5, en6]
theorem tabE_ok (hm : Tryd.prog.follows .mixedOrders = true) (hN : (Tryd.prog.funcs.toList.all fun fn => !(fn.name == "runtime.NumGoroutine")) = true) : ∀ e ∈ tabE, ∃ c, Ev.CallOk Tryd.prog (fun _ _ => none) c ∧ Ev.Known c e := by
  intro e he
  have hc := Ev.evF_ok (P := Tryd.prog) hm (Ev.names_of hN) (fun _ _ => none) 2000 29
  simp only [tabE, List.mem_cons, List.not_mem_nil, or_false] at he
  rcases he with rfl | rfl | rfl | rfl | rfl | rfl | rfl
  · exact ⟨_, hc, kn0⟩
  · exact ⟨_, hc, kn1⟩
  · exact ⟨_, hc, kn2⟩
  · exact ⟨_, hc, kn3⟩
  · exact ⟨_, hc, kn4⟩
  · exact ⟨_, hc, kn5⟩
  · exact ⟨_, hc, kn6⟩
theorem alive6 : Ctr Tryd.prog 6 [] (.d (.fl (.bool true))) := ctr_flat [] (fun w => by
  have hm : Tryd.prog.follows .mixedOrders = true := by kernel_rfl
  have hN : (Tryd.prog.funcs.toList.all fun fn => !(fn.name == "runtime.NumGoroutine")) = true := by kernel_rfl
  refine Ev.ev_aliveM hm hN (call := Ev.bodyX Tryd.prog (fun _ _ => none) 2000 (Ev.memo tabE (Ev.evF Tryd.prog (fun _ _ => none) 2000 29))) (Ev.bodyX_ok hm (Ev.names_of hN) _ 2000 (Ev.memo_ok (Ev.evF_ok hm (Ev.names_of hN) _ 2000 29) (tabE_ok hm hN))) ?_ w (fun _ _ _ h => by cases h)
  exact (show Ev.trueC _ _ = true by kernel_rfl))
end Go.Proofs.YtgelodnkfajgjaaDoor.Wk
