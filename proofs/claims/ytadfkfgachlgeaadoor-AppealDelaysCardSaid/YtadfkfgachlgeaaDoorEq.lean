/- Structures held against themselves. No condition. -/
import Derived.Test.YtadfkfgachlgeaaDoorTy
set_option linter.unusedSimpArgs false
set_option linter.unusedVariables false
namespace Go.Proofs.YtadfkfgachlgeaaDoor.Wk
open Go Go.RowKit Go.Proofs.YtadfkfgachlgeaaDoor.Av
theorem eqI26 (a : Ap) (w : World) : (Op.equalIn 10000 26 (.agg ([.int .i64 a.state, .int .i64 a.ground, .int .i64 a.day] : List Value).toArray) (.agg ([.int .i64 a.state, .int .i64 a.ground, .int .i64 a.day] : List Value).toArray)).run Tryd.prog w = .ok true w := by
  have hS : Tryd.prog.underlying 26 = some (.struct (Tryd.prog.fieldsOf 26)) := by kernel_rfl
  have hp : Tryd.prog.stoodInHeld 26 = false := by kernel_rfl
  rw [show (10000 : Nat) = 9999 + 1 from rfl, run_equalIn_agg w 9999 26 _ _ hS hp]
  simp only [Program.fieldsOf, Tryd.underlying26]
  go_simp

theorem eql26 (a : Ap) (x y : Operand) (w : World) : (do eqGuard .eql 26 x y (.agg ([.int .i64 a.state, .int .i64 a.ground, .int .i64 a.day] : List Value).toArray) (.agg ([.int .i64 a.state, .int .i64 a.ground, .int .i64 a.day] : List Value).toArray); binOp .eql 26 (.agg ([.int .i64 a.state, .int .i64 a.ground, .int .i64 a.day] : List Value).toArray) (.agg ([.int .i64 a.state, .int .i64 a.ground, .int .i64 a.day] : List Value).toArray) : Sem Value).run Tryd.prog w = .ok (.bool true) w := by
  have hm : Tryd.prog.eqGuardType Tryd.prog.depth 26 = false := by kernel_rfl
  rw [Sem.run_bind, run_eqGuard_agg w .eql 26 x y _ _ hm, Result.andThen_ok, run_eql_struct, eqI26]
  rfl

theorem neq26 (a : Ap) (x y : Operand) (w : World) : (do eqGuard .neq 26 x y (.agg ([.int .i64 a.state, .int .i64 a.ground, .int .i64 a.day] : List Value).toArray) (.agg ([.int .i64 a.state, .int .i64 a.ground, .int .i64 a.day] : List Value).toArray); binOp .neq 26 (.agg ([.int .i64 a.state, .int .i64 a.ground, .int .i64 a.day] : List Value).toArray) (.agg ([.int .i64 a.state, .int .i64 a.ground, .int .i64 a.day] : List Value).toArray) : Sem Value).run Tryd.prog w = .ok (.bool false) w := by
  have hm : Tryd.prog.eqGuardType Tryd.prog.depth 26 = false := by kernel_rfl
  rw [Sem.run_bind, run_eqGuard_agg w .neq 26 x y _ _ hm, Result.andThen_ok, run_neq_struct, eqI26]
  rfl

theorem eqI28 (a : Cs) (w : World) : (Op.equalIn 10000 28 (.agg ([.string a.id, .string a.plate, .string a.key, .int .i64 a.begun, .int .i64 a.since, .int .i64 a.stage, .int .i64 a.owed, .int .i64 a.paid, .int .i64 a.paused, .int .i64 a.ap.state, .int .i64 a.ap.ground, .int .i64 a.ap.day] : List Value).toArray) (.agg ([.string a.id, .string a.plate, .string a.key, .int .i64 a.begun, .int .i64 a.since, .int .i64 a.stage, .int .i64 a.owed, .int .i64 a.paid, .int .i64 a.paused, .int .i64 a.ap.state, .int .i64 a.ap.ground, .int .i64 a.ap.day] : List Value).toArray)).run Tryd.prog w = .ok true w := by
  have hS : Tryd.prog.underlying 28 = some (.struct (Tryd.prog.fieldsOf 28)) := by kernel_rfl
  have hp : Tryd.prog.stoodInHeld 28 = false := by kernel_rfl
  rw [show (10000 : Nat) = 9999 + 1 from rfl, run_equalIn_agg w 9999 28 _ _ hS hp]
  simp only [Program.fieldsOf, Tryd.underlying28]
  go_simp

theorem eql28 (a : Cs) (x y : Operand) (w : World) : (do eqGuard .eql 28 x y (.agg ([.string a.id, .string a.plate, .string a.key, .int .i64 a.begun, .int .i64 a.since, .int .i64 a.stage, .int .i64 a.owed, .int .i64 a.paid, .int .i64 a.paused, .int .i64 a.ap.state, .int .i64 a.ap.ground, .int .i64 a.ap.day] : List Value).toArray) (.agg ([.string a.id, .string a.plate, .string a.key, .int .i64 a.begun, .int .i64 a.since, .int .i64 a.stage, .int .i64 a.owed, .int .i64 a.paid, .int .i64 a.paused, .int .i64 a.ap.state, .int .i64 a.ap.ground, .int .i64 a.ap.day] : List Value).toArray); binOp .eql 28 (.agg ([.string a.id, .string a.plate, .string a.key, .int .i64 a.begun, .int .i64 a.since, .int .i64 a.stage, .int .i64 a.owed, .int .i64 a.paid, .int .i64 a.paused, .int .i64 a.ap.state, .int .i64 a.ap.ground, .int .i64 a.ap.day] : List Value).toArray) (.agg ([.string a.id, .string a.plate, .string a.key, .int .i64 a.begun, .int .i64 a.since, .int .i64 a.stage, .int .i64 a.owed, .int .i64 a.paid, .int .i64 a.paused, .int .i64 a.ap.state, .int .i64 a.ap.ground, .int .i64 a.ap.day] : List Value).toArray) : Sem Value).run Tryd.prog w = .ok (.bool true) w := by
  have hm : Tryd.prog.eqGuardType Tryd.prog.depth 28 = false := by kernel_rfl
  rw [Sem.run_bind, run_eqGuard_agg w .eql 28 x y _ _ hm, Result.andThen_ok, run_eql_struct, eqI28]
  rfl

theorem neq28 (a : Cs) (x y : Operand) (w : World) : (do eqGuard .neq 28 x y (.agg ([.string a.id, .string a.plate, .string a.key, .int .i64 a.begun, .int .i64 a.since, .int .i64 a.stage, .int .i64 a.owed, .int .i64 a.paid, .int .i64 a.paused, .int .i64 a.ap.state, .int .i64 a.ap.ground, .int .i64 a.ap.day] : List Value).toArray) (.agg ([.string a.id, .string a.plate, .string a.key, .int .i64 a.begun, .int .i64 a.since, .int .i64 a.stage, .int .i64 a.owed, .int .i64 a.paid, .int .i64 a.paused, .int .i64 a.ap.state, .int .i64 a.ap.ground, .int .i64 a.ap.day] : List Value).toArray); binOp .neq 28 (.agg ([.string a.id, .string a.plate, .string a.key, .int .i64 a.begun, .int .i64 a.since, .int .i64 a.stage, .int .i64 a.owed, .int .i64 a.paid, .int .i64 a.paused, .int .i64 a.ap.state, .int .i64 a.ap.ground, .int .i64 a.ap.day] : List Value).toArray) (.agg ([.string a.id, .string a.plate, .string a.key, .int .i64 a.begun, .int .i64 a.since, .int .i64 a.stage, .int .i64 a.owed, .int .i64 a.paid, .int .i64 a.paused, .int .i64 a.ap.state, .int .i64 a.ap.ground, .int .i64 a.ap.day] : List Value).toArray) : Sem Value).run Tryd.prog w = .ok (.bool false) w := by
  have hm : Tryd.prog.eqGuardType Tryd.prog.depth 28 = false := by kernel_rfl
  rw [Sem.run_bind, run_eqGuard_agg w .neq 28 x y _ _ hm, Result.andThen_ok, run_neq_struct, eqI28]
  rfl

end Go.Proofs.YtadfkfgachlgeaaDoor.Wk
