/- The guard, for the other closures. No condition. -/
import Derived.Test.YtppgaddjjlcfcaaGd
set_option linter.unusedSimpArgs false
set_option linter.unusedVariables false
namespace Go.Proofs.Ytppgaddjjlcfcaa.Wk
open Go.RowKit
open Go.Proofs.Ytppgaddjjlcfcaa.Mt
set_option maxHeartbeats 2000000 in
/-- a call under the guard that ends well -/
theorem run_ok39 (cap : Array Value) (w : World) (R : World → Prop) (h : Calls Try.prog 39 cap (w.alloc (.cells #[.int .i64 0] 29)) fun e w' => e = .returned (.tuple #[]) ∧ R w' ∧ Bx w' w.heap.size 29 #[.int .i64 0]) :
    Calls Try.prog 35 #[.func (.func 39) #[] cap] w fun e w2 => e = .returned (.int .i64 0) ∧ ∃ w1, R w1 ∧ Below w.heap.size w1 w2 := by
  have hmf : ∀ (fn : Fn) (first cap : Array Value) (w : World), (Instr.makeFunc fn first cap).run Try.prog w = .ok (.func fn first cap) w := fun _ _ _ _ => rfl
  go_enter_defers Try.func35, Try.ntmps35
  go_wp2_with fail
  refine h.mono ?_
  rintro e w1 ⟨rfl, hR, hx⟩
  have HR := Lib.hid hR
  have c0 := (hx.cell 0).trans rfl
  have f0 := hx.free 0
  have hlt := hx.lt
  have h2 := hx.set 0 (.int .i64 0)
  clear h hR
  go_wp2_with fail
  refine leaves_cons (f := 44) (args := #[.pointer (some ⟨w.heap.size, 0, none⟩)]) (by simp) (by simp [go_sem]) ?_
  refine (catch_idle ⟨w.heap.size, 0, none⟩ _).mono ?_
  rintro e u' w'' ⟨rfl, rfl, rfl⟩
  have c1 := (h2.cell 0).trans rfl
  simp only [Leaves, settle]
  refine ⟨.int .i64 0, ?_, rfl, w1, HR.out, (Below.refl _ _).setCell (p := ⟨w.heap.size, 0, none⟩) (Nat.le_refl _) _⟩
  simp [results, Try.results35, go_sem, c1]
set_option maxHeartbeats 2000000 in
/-- .. that fails -/
theorem run_fail39 (cap : Array Value) (w : World) (R : World → Prop) (er : Int) (h : Calls Try.prog 39 cap (w.alloc (.cells #[.int .i64 0] 29)) fun e w' => e = .panicked [fl er] ∧ R w' ∧ Bx w' w.heap.size 29 #[.int .i64 0]) :
    Calls Try.prog 35 #[.func (.func 39) #[] cap] w fun e w2 => e = .returned (.int .i64 er) ∧ ∃ w1, R w1 ∧ Below w.heap.size w1 w2 := by
  have hmf : ∀ (fn : Fn) (first cap : Array Value) (w : World), (Instr.makeFunc fn first cap).run Try.prog w = .ok (.func fn first cap) w := fun _ _ _ _ => rfl
  go_enter_defers Try.func35, Try.ntmps35
  go_wp2_with fail
  refine h.mono ?_
  rintro e w1 ⟨rfl, hR, hx⟩
  have HR := Lib.hid hR
  have hlt := hx.lt
  clear h hR
  refine leaves_cons (f := 44) (args := #[.pointer (some ⟨w.heap.size, 0, none⟩)]) (by simp) (by simp [go_sem]) ?_
  refine (catch_fail w.heap.size er 0 [] _ hx).mono ?_
  rintro e u' w'' ⟨rfl, rfl, rfl⟩
  have h2 := (hx.set 0 (.int .i64 er)).alloc (.cells #[.int .i64 er] 66)
  have c1 := (h2.cell 0).trans rfl
  simp only [Leaves, settle, List.dropWhile_nil]
  refine ⟨.int .i64 er, ?_, rfl, w1, HR.out, ((Below.refl _ _).setCell (p := ⟨w.heap.size, 0, none⟩) (Nat.le_refl _) _).alloc (by simp; omega) _⟩
  simp [results, Try.results35, go_sem, c1]
set_option maxHeartbeats 2000000 in
/-- a call under the guard that ends well -/
theorem run_ok41 (cap : Array Value) (w : World) (R : World → Prop) (h : Calls Try.prog 41 cap (w.alloc (.cells #[.int .i64 0] 29)) fun e w' => e = .returned (.tuple #[]) ∧ R w' ∧ Bx w' w.heap.size 29 #[.int .i64 0]) :
    Calls Try.prog 35 #[.func (.func 41) #[] cap] w fun e w2 => e = .returned (.int .i64 0) ∧ ∃ w1, R w1 ∧ Below w.heap.size w1 w2 := by
  have hmf : ∀ (fn : Fn) (first cap : Array Value) (w : World), (Instr.makeFunc fn first cap).run Try.prog w = .ok (.func fn first cap) w := fun _ _ _ _ => rfl
  go_enter_defers Try.func35, Try.ntmps35
  go_wp2_with fail
  refine h.mono ?_
  rintro e w1 ⟨rfl, hR, hx⟩
  have HR := Lib.hid hR
  have c0 := (hx.cell 0).trans rfl
  have f0 := hx.free 0
  have hlt := hx.lt
  have h2 := hx.set 0 (.int .i64 0)
  clear h hR
  go_wp2_with fail
  refine leaves_cons (f := 44) (args := #[.pointer (some ⟨w.heap.size, 0, none⟩)]) (by simp) (by simp [go_sem]) ?_
  refine (catch_idle ⟨w.heap.size, 0, none⟩ _).mono ?_
  rintro e u' w'' ⟨rfl, rfl, rfl⟩
  have c1 := (h2.cell 0).trans rfl
  simp only [Leaves, settle]
  refine ⟨.int .i64 0, ?_, rfl, w1, HR.out, (Below.refl _ _).setCell (p := ⟨w.heap.size, 0, none⟩) (Nat.le_refl _) _⟩
  simp [results, Try.results35, go_sem, c1]
set_option maxHeartbeats 2000000 in
/-- .. that fails -/
theorem run_fail41 (cap : Array Value) (w : World) (R : World → Prop) (er : Int) (h : Calls Try.prog 41 cap (w.alloc (.cells #[.int .i64 0] 29)) fun e w' => e = .panicked [fl er] ∧ R w' ∧ Bx w' w.heap.size 29 #[.int .i64 0]) :
    Calls Try.prog 35 #[.func (.func 41) #[] cap] w fun e w2 => e = .returned (.int .i64 er) ∧ ∃ w1, R w1 ∧ Below w.heap.size w1 w2 := by
  have hmf : ∀ (fn : Fn) (first cap : Array Value) (w : World), (Instr.makeFunc fn first cap).run Try.prog w = .ok (.func fn first cap) w := fun _ _ _ _ => rfl
  go_enter_defers Try.func35, Try.ntmps35
  go_wp2_with fail
  refine h.mono ?_
  rintro e w1 ⟨rfl, hR, hx⟩
  have HR := Lib.hid hR
  have hlt := hx.lt
  clear h hR
  refine leaves_cons (f := 44) (args := #[.pointer (some ⟨w.heap.size, 0, none⟩)]) (by simp) (by simp [go_sem]) ?_
  refine (catch_fail w.heap.size er 0 [] _ hx).mono ?_
  rintro e u' w'' ⟨rfl, rfl, rfl⟩
  have h2 := (hx.set 0 (.int .i64 er)).alloc (.cells #[.int .i64 er] 66)
  have c1 := (h2.cell 0).trans rfl
  simp only [Leaves, settle, List.dropWhile_nil]
  refine ⟨.int .i64 er, ?_, rfl, w1, HR.out, ((Below.refl _ _).setCell (p := ⟨w.heap.size, 0, none⟩) (Nat.le_refl _) _).alloc (by simp; omega) _⟩
  simp [results, Try.results35, go_sem, c1]
set_option maxHeartbeats 2000000 in
/-- a call under the guard that ends well -/
theorem run_ok43 (cap : Array Value) (w : World) (R : World → Prop) (h : Calls Try.prog 43 cap (w.alloc (.cells #[.int .i64 0] 29)) fun e w' => e = .returned (.tuple #[]) ∧ R w' ∧ Bx w' w.heap.size 29 #[.int .i64 0]) :
    Calls Try.prog 35 #[.func (.func 43) #[] cap] w fun e w2 => e = .returned (.int .i64 0) ∧ ∃ w1, R w1 ∧ Below w.heap.size w1 w2 := by
  have hmf : ∀ (fn : Fn) (first cap : Array Value) (w : World), (Instr.makeFunc fn first cap).run Try.prog w = .ok (.func fn first cap) w := fun _ _ _ _ => rfl
  go_enter_defers Try.func35, Try.ntmps35
  go_wp2_with fail
  refine h.mono ?_
  rintro e w1 ⟨rfl, hR, hx⟩
  have HR := Lib.hid hR
  have c0 := (hx.cell 0).trans rfl
  have f0 := hx.free 0
  have hlt := hx.lt
  have h2 := hx.set 0 (.int .i64 0)
  clear h hR
  go_wp2_with fail
  refine leaves_cons (f := 44) (args := #[.pointer (some ⟨w.heap.size, 0, none⟩)]) (by simp) (by simp [go_sem]) ?_
  refine (catch_idle ⟨w.heap.size, 0, none⟩ _).mono ?_
  rintro e u' w'' ⟨rfl, rfl, rfl⟩
  have c1 := (h2.cell 0).trans rfl
  simp only [Leaves, settle]
  refine ⟨.int .i64 0, ?_, rfl, w1, HR.out, (Below.refl _ _).setCell (p := ⟨w.heap.size, 0, none⟩) (Nat.le_refl _) _⟩
  simp [results, Try.results35, go_sem, c1]
set_option maxHeartbeats 2000000 in
/-- .. that fails -/
theorem run_fail43 (cap : Array Value) (w : World) (R : World → Prop) (er : Int) (h : Calls Try.prog 43 cap (w.alloc (.cells #[.int .i64 0] 29)) fun e w' => e = .panicked [fl er] ∧ R w' ∧ Bx w' w.heap.size 29 #[.int .i64 0]) :
    Calls Try.prog 35 #[.func (.func 43) #[] cap] w fun e w2 => e = .returned (.int .i64 er) ∧ ∃ w1, R w1 ∧ Below w.heap.size w1 w2 := by
  have hmf : ∀ (fn : Fn) (first cap : Array Value) (w : World), (Instr.makeFunc fn first cap).run Try.prog w = .ok (.func fn first cap) w := fun _ _ _ _ => rfl
  go_enter_defers Try.func35, Try.ntmps35
  go_wp2_with fail
  refine h.mono ?_
  rintro e w1 ⟨rfl, hR, hx⟩
  have HR := Lib.hid hR
  have hlt := hx.lt
  clear h hR
  refine leaves_cons (f := 44) (args := #[.pointer (some ⟨w.heap.size, 0, none⟩)]) (by simp) (by simp [go_sem]) ?_
  refine (catch_fail w.heap.size er 0 [] _ hx).mono ?_
  rintro e u' w'' ⟨rfl, rfl, rfl⟩
  have h2 := (hx.set 0 (.int .i64 er)).alloc (.cells #[.int .i64 er] 66)
  have c1 := (h2.cell 0).trans rfl
  simp only [Leaves, settle, List.dropWhile_nil]
  refine ⟨.int .i64 er, ?_, rfl, w1, HR.out, ((Below.refl _ _).setCell (p := ⟨w.heap.size, 0, none⟩) (Nat.le_refl _) _).alloc (by simp; omega) _⟩
  simp [results, Try.results35, go_sem, c1]
end Go.Proofs.Ytppgaddjjlcfcaa.Wk
