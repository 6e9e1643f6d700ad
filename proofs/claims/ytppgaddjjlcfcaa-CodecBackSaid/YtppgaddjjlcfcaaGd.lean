/- The guard: what fails is caught, and its error handed back. No condition. -/
import Derived.Test.YtppgaddjjlcfcaaBase
import Derived.Handy
import Derived.Defers
import Derived.Recover
set_option linter.unusedSimpArgs false
set_option linter.unusedVariables false
namespace Go.Proofs.Ytppgaddjjlcfcaa.Wk
open Go.RowKit
open Go.Proofs.Ytppgaddjjlcfcaa.Mt
/-- what a decoder panics with -/
def fl (er : Int) : PanicEntry := { v := .iface 66 (.agg #[.int .i64 er]), recovered := false }
theorem fail46 (er : Int) (w : World) : Calls Try.prog 46 #[.int .i64 er] w fun e w' => e = .panicked [fl er] ∧ w' = w := by
  go_enter Try.func46, Try.ntmps46
  go_wp2_with fail
  exact ⟨rfl, rfl, rfl⟩
theorem assert66 (v : Value) (w : World) : (Instr.typeAssert (.iface 66 v) 20 66 true).run Try.prog w = .ok (.tuple #[v, .bool true]) w := by
  unfold Instr.typeAssert
  simp [go_sem, Try.underlying66]
set_option maxHeartbeats 2000000 in
theorem catch_fail (g : Nat) (er x : Int) (older : List PanicEntry) (w : World) (h : Bx w g 29 #[.int .i64 x]) :
    CallsD Try.prog 44 #[.pointer (some ⟨g, 0, none⟩)] (.panicking (fl er :: older)) w fun e u' w' =>
      e = .returned (.tuple #[]) ∧ u' = .panicking ({ fl er with recovered := true } :: older) ∧ w' = (w.setCell ⟨g, 0, none⟩ (.int .i64 er)).alloc (.cells #[.int .i64 er] 66) := by
  have hlt := h.lt
  have h2 := h.alloc (.cells #[.int .i64 er] 66)
  have c0 := (h.cell 0).trans rfl
  have c1 := (h2.cell 0).trans rfl
  have f0 := h.free 0
  have f1 := h2.free 0
  have hta := assert66 (.agg #[.int .i64 er])
  refine callsD_of_wpS Try.func44 rfl fun c₀ cs hu => ?_
  apply wpS_seq
  apply wpS_region
  simp [wpOpsS, go_sem, recoverD, hu, Try.ntmps44, Exit.thenS, fl]
  refine wpS_of_wp ?_
  go_wp2_with fail
  simp [bodyPostS, results, Try.results44, go_sem]
theorem catch_idle (p : Addr) (w : World) :
    CallsD Try.prog 44 #[.pointer (some p)] .returning w fun e u' w' => e = .returned (.tuple #[]) ∧ u' = .returning ∧ w' = w := by
  refine callsD_of_wpS Try.func44 rfl fun c₀ cs hu => ?_
  apply wpS_seq
  apply wpS_region
  simp [wpOpsS, go_sem, recoverD, hu, Try.ntmps44, Exit.thenS]
  refine wpS_of_wp ?_
  go_wp2_with fail
  cases c₀
  simp_all [bodyPostS, results, Try.results44, go_sem]
set_option maxHeartbeats 2000000 in
/-- a call under the guard that ends well -/
theorem run_ok36 (cap : Array Value) (w : World) (R : World → Prop) (h : Calls Try.prog 36 cap (w.alloc (.cells #[.int .i64 0] 29)) fun e w' => e = .returned (.tuple #[]) ∧ R w' ∧ Bx w' w.heap.size 29 #[.int .i64 0]) :
    Calls Try.prog 35 #[.func (.func 36) #[] cap] w fun e w2 => e = .returned (.int .i64 0) ∧ ∃ w1, R w1 ∧ Below w.heap.size w1 w2 := by
  have hmf : ∀ (fn : Fn) (first cap : Array Value) (w : World), (Instr.makeFunc fn first cap).run Try.prog w = .ok (.func fn first cap) w := fun _ _ _ _ => rfl
  go_enter_defers Try.func35, Try.ntmps35
  go_wp2_with fail
  refine h.mono ?_
  rintro e w1 ⟨rfl, hR, hx⟩
  have HR := Lib.hid hR
  have c0 := (hx.cell 0).trans rfl
  have f0 := hx.free 0
  have hlt := hx.lt
  have h2 := hx.set 0 (.int .i64 0)
  clear h hR
  go_wp2_with fail
  refine leaves_cons (f := 44) (args := #[.pointer (some ⟨w.heap.size, 0, none⟩)]) (by simp) (by simp [go_sem]) ?_
  refine (catch_idle ⟨w.heap.size, 0, none⟩ _).mono ?_
  rintro e u' w'' ⟨rfl, rfl, rfl⟩
  have c1 := (h2.cell 0).trans rfl
  simp only [Leaves, settle]
  refine ⟨.int .i64 0, ?_, rfl, w1, HR.out, (Below.refl _ _).setCell (p := ⟨w.heap.size, 0, none⟩) (Nat.le_refl _) _⟩
  simp [results, Try.results35, go_sem, c1]
set_option maxHeartbeats 2000000 in
/-- .. that fails -/
theorem run_fail36 (cap : Array Value) (w : World) (R : World → Prop) (er : Int) (h : Calls Try.prog 36 cap (w.alloc (.cells #[.int .i64 0] 29)) fun e w' => e = .panicked [fl er] ∧ R w' ∧ Bx w' w.heap.size 29 #[.int .i64 0]) :
    Calls Try.prog 35 #[.func (.func 36) #[] cap] w fun e w2 => e = .returned (.int .i64 er) ∧ ∃ w1, R w1 ∧ Below w.heap.size w1 w2 := by
  have hmf : ∀ (fn : Fn) (first cap : Array Value) (w : World), (Instr.makeFunc fn first cap).run Try.prog w = .ok (.func fn first cap) w := fun _ _ _ _ => rfl
  go_enter_defers Try.func35, Try.ntmps35
  go_wp2_with fail
  refine h.mono ?_
  rintro e w1 ⟨rfl, hR, hx⟩
  have HR := Lib.hid hR
  have hlt := hx.lt
  clear h hR
  refine leaves_cons (f := 44) (args := #[.pointer (some ⟨w.heap.size, 0, none⟩)]) (by simp) (by simp [go_sem]) ?_
  refine (catch_fail w.heap.size er 0 [] _ hx).mono ?_
  rintro e u' w'' ⟨rfl, rfl, rfl⟩
  have h2 := (hx.set 0 (.int .i64 er)).alloc (.cells #[.int .i64 er] 66)
  have c1 := (h2.cell 0).trans rfl
  simp only [Leaves, settle, List.dropWhile_nil]
  refine ⟨.int .i64 er, ?_, rfl, w1, HR.out, ((Below.refl _ _).setCell (p := ⟨w.heap.size, 0, none⟩) (Nat.le_refl _) _).alloc (by simp; omega) _⟩
  simp [results, Try.results35, go_sem, c1]
end Go.Proofs.Ytppgaddjjlcfcaa.Wk
