/- The types of the program, and data of them. No condition. -/
import Derived.Test.YtacbipoplnfmoaaProg
import Derived.Test.YtacbipoplnfmoaaAvF
set_option linter.unusedSimpArgs false
set_option linter.unusedVariables false
namespace Go.Proofs.Ytacbipoplnfmoaa.Wk
open Go Go.RowKit Go.Proofs.Ytacbipoplnfmoaa.Av
structure Rl where
  kind : Int
  part : Int
  deriving Inhabited
def eRl (x : Rl) : List DV := [.fl (.int .i64 x.kind), .fl (.int .i64 x.part)]
theorem ti3 : TI Try.prog 3 (.int .i64 0) 1 8 := ti_of (by kernel_rfl)
theorem ti4 : TI Try.prog 4 (.bool false) 1 1 := ti_of (by kernel_rfl)
theorem ti22 : TI Try.prog 22 (.slice none 0 0) 1 24 := ti_of (by kernel_rfl)
theorem ti23 : TI Try.prog 23 (.slice none 0 0) 1 24 := ti_of (by kernel_rfl)
theorem ti25 : TI Try.prog 25 (.int .i64 0) 1 8 := ti_of (by kernel_rfl)
theorem ti31 : TI Try.prog 31 (.agg #[.int .i64 0, .int .i64 0]) 2 16 := ti_of (by kernel_rfl)
theorem ti80 : TI Try.prog 80 (.agg #[.bool false, .bool false, .bool false, .bool false]) 4 4 := ti_of (by kernel_rfl)
theorem ti81 : TI Try.prog 81 (.agg #[.int .i64 0, .int .i64 0, .int .i64 0, .int .i64 0]) 4 32 := ti_of (by kernel_rfl)
theorem nm3 : (Try.f3.name == "runtime.NumGoroutine") = false := by kernel_rfl
theorem nm4 : (Try.f4.name == "runtime.NumGoroutine") = false := by kernel_rfl
theorem nm5 : (Try.f5.name == "runtime.NumGoroutine") = false := by kernel_rfl
theorem nm6 : (Try.f6.name == "runtime.NumGoroutine") = false := by kernel_rfl
theorem nm7 : (Try.f7.name == "runtime.NumGoroutine") = false := by kernel_rfl
theorem nm8 : (Try.f8.name == "runtime.NumGoroutine") = false := by kernel_rfl
theorem nm9 : (Try.f9.name == "runtime.NumGoroutine") = false := by kernel_rfl
end Go.Proofs.Ytacbipoplnfmoaa.Wk
