/- The types of the program, and data of them. No condition. -/
import Derived.Test.YtgidehchfahpnaaProg
import Derived.Test.YtgidehchfahpnaaAvF
set_option linter.unusedSimpArgs false
set_option linter.unusedVariables false
namespace Go.Proofs.Ytgidehchfahpnaa.Wk
open Go Go.RowKit Go.Proofs.Ytgidehchfahpnaa.Av
structure Ln where
  text : ByteArray
  cents : Int
  deriving Inhabited
def eLn (x : Ln) : List DV := [.fl (.string x.text), .fl (.int .i64 x.cents)]
structure Cg where
  key : ByteArray
  veh : ByteArray
  sys : ByteArray
  cls : Int
  time : Int
  lines : List Ln
  cents : Int
  deriving Inhabited
def eCg (x : Cg) : List DV := [.fl (.string x.key), .fl (.string x.veh), .fl (.string x.sys), .fl (.int .i64 x.cls), .fl (.int .i64 x.time), .sl 2 (List.map eLn x.lines), .fl (.int .i64 x.cents)]
theorem ti3 : TI Try.prog 3 (.int .i64 0) 1 8 := ti_of (by kernel_rfl)
theorem ti4 : TI Try.prog 4 (.bool false) 1 1 := ti_of (by kernel_rfl)
theorem ti9 : TI Try.prog 9 (.string ⟨#[]⟩) 1 16 := ti_of (by kernel_rfl)
theorem ti22 : TI Try.prog 22 (.slice none 0 0) 1 24 := ti_of (by kernel_rfl)
theorem ti24 : TI Try.prog 24 (.agg #[.string ⟨#[]⟩, .string ⟨#[]⟩, .string ⟨#[]⟩, .int .i64 0, .int .i64 0, .slice none 0 0, .int .i64 0]) 7 96 := ti_of (by kernel_rfl)
theorem ti26 : TI Try.prog 26 (.int .i64 0) 1 8 := ti_of (by kernel_rfl)
theorem ti82 : TI Try.prog 82 (.agg #[.string ⟨#[]⟩, .int .i64 0]) 2 24 := ti_of (by kernel_rfl)
theorem ti101 : TI Try.prog 101 (.int .u64 0) 1 8 := ti_of (by kernel_rfl)
theorem ti104 : TI Try.prog 104 (.int .u64 0) 1 8 := ti_of (by kernel_rfl)
theorem nm3 : (Try.f3.name == "runtime.NumGoroutine") = false := by kernel_rfl
theorem nm4 : (Try.f4.name == "runtime.NumGoroutine") = false := by kernel_rfl
theorem nm5 : (Try.f5.name == "runtime.NumGoroutine") = false := by kernel_rfl
theorem nm6 : (Try.f6.name == "runtime.NumGoroutine") = false := by kernel_rfl
theorem nm11 : (Try.f11.name == "runtime.NumGoroutine") = false := by kernel_rfl
theorem nm12 : (Try.f12.name == "runtime.NumGoroutine") = false := by kernel_rfl
theorem nm13 : (Try.f13.name == "runtime.NumGoroutine") = false := by kernel_rfl
theorem nm14 : (Try.f14.name == "runtime.NumGoroutine") = false := by kernel_rfl
end Go.Proofs.Ytgidehchfahpnaa.Wk
