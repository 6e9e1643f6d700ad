/- The types of the program, and data of them. No condition. -/
import Derived.Test.YteeofplcnnhcnaaDoorProg
import Derived.Test.YteeofplcnnhcnaaDoorAvF
set_option linter.unusedSimpArgs false
set_option linter.unusedVariables false
namespace Go.Proofs.YteeofplcnnhcnaaDoor.Wk
open Go Go.RowKit Go.Proofs.YteeofplcnnhcnaaDoor.Av
structure Ca where
  name : ByteArray
  sys : ByteArray
  days : Int
  cents : Int
  deriving Inhabited
def eCa (x : Ca) : List DV := [.fl (.string x.name), .fl (.string x.sys), .fl (.int .i64 x.days), .fl (.int .i64 x.cents)]
structure Cg where
  key : ByteArray
  veh : ByteArray
  sys : ByteArray
  cls : Int
  time : Int
  lines : Value
  cents : Int
  deriving Inhabited
def eCg (x : Cg) : List DV := [.fl (.string x.key), .fl (.string x.veh), .fl (.string x.sys), .fl (.int .i64 x.cls), .fl (.int .i64 x.time), .fl x.lines, .fl (.int .i64 x.cents)]
theorem ti3 : TI Tryd.prog 3 (.int .i64 0) 1 8 := ti_of (by kernel_rfl)
theorem ti4 : TI Tryd.prog 4 (.bool false) 1 1 := ti_of (by kernel_rfl)
theorem ti9 : TI Tryd.prog 9 (.string ⟨#[]⟩) 1 16 := ti_of (by kernel_rfl)
theorem ti23 : TI Tryd.prog 23 (.agg #[.string ⟨#[]⟩, .string ⟨#[]⟩, .int .i64 0, .int .i64 0]) 4 48 := ti_of (by kernel_rfl)
theorem ti24 : TI Tryd.prog 24 (.slice none 0 0) 1 24 := ti_of (by kernel_rfl)
theorem ti26 : TI Tryd.prog 26 (.agg #[.string ⟨#[]⟩, .string ⟨#[]⟩, .string ⟨#[]⟩, .int .i64 0, .int .i64 0, .slice none 0 0, .int .i64 0]) 7 96 := ti_of (by kernel_rfl)
theorem ti27 : TI Tryd.prog 27 (.int .i64 0) 1 8 := ti_of (by kernel_rfl)
theorem ti34 : TI Tryd.prog 34 (.slice none 0 0) 1 24 := ti_of (by kernel_rfl)
theorem nm3 : (Tryd.f3.name == "runtime.NumGoroutine") = false := by kernel_rfl
theorem nm4 : (Tryd.f4.name == "runtime.NumGoroutine") = false := by kernel_rfl
theorem nm5 : (Tryd.f5.name == "runtime.NumGoroutine") = false := by kernel_rfl
theorem nm6 : (Tryd.f6.name == "runtime.NumGoroutine") = false := by kernel_rfl
theorem nm7 : (Tryd.f7.name == "runtime.NumGoroutine") = false := by kernel_rfl
theorem nm8 : (Tryd.f8.name == "runtime.NumGoroutine") = false := by kernel_rfl
theorem nm9 : (Tryd.f9.name == "runtime.NumGoroutine") = false := by kernel_rfl
theorem nm10 : (Tryd.f10.name == "runtime.NumGoroutine") = false := by kernel_rfl
theorem nm11 : (Tryd.f11.name == "runtime.NumGoroutine") = false := by kernel_rfl
theorem nm12 : (Tryd.f12.name == "runtime.NumGoroutine") = false := by kernel_rfl
theorem nm13 : (Tryd.f13.name == "runtime.NumGoroutine") = false := by kernel_rfl
theorem nm14 : (Tryd.f14.name == "runtime.NumGoroutine") = false := by kernel_rfl
theorem nm15 : (Tryd.f15.name == "runtime.NumGoroutine") = false := by kernel_rfl
theorem nm16 : (Tryd.f16.name == "runtime.NumGoroutine") = false := by kernel_rfl
theorem nm17 : (Tryd.f17.name == "runtime.NumGoroutine") = false := by kernel_rfl
theorem nm18 : (Tryd.f18.name == "runtime.NumGoroutine") = false := by kernel_rfl
theorem nm19 : (Tryd.f19.name == "runtime.NumGoroutine") = false := by kernel_rfl
theorem nm20 : (Tryd.f20.name == "runtime.NumGoroutine") = false := by kernel_rfl
theorem nm21 : (Tryd.f21.name == "runtime.NumGoroutine") = false := by kernel_rfl
theorem nm22 : (Tryd.f22.name == "runtime.NumGoroutine") = false := by kernel_rfl
theorem nm26 : (Tryd.f26.name == "runtime.NumGoroutine") = false := by kernel_rfl
theorem nm27 : (Tryd.f27.name == "runtime.NumGoroutine") = false := by kernel_rfl
theorem nm28 : (Tryd.f28.name == "runtime.NumGoroutine") = false := by kernel_rfl
theorem nm29 : (Tryd.f29.name == "runtime.NumGoroutine") = false := by kernel_rfl
end Go.Proofs.YteeofplcnnhcnaaDoor.Wk
