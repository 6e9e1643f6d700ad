/- The types of the program, and data of them. No condition. -/
import Derived.Test.YtknikpnleeamkaaGreatProg
import Derived.Test.YtknikpnleeamkaaGreatAvF
set_option linter.unusedSimpArgs false
set_option linter.unusedVariables false
namespace Go.Proofs.YtknikpnleeamkaaGreat.Wk
open Go Go.RowKit Go.Proofs.YtknikpnleeamkaaGreat.Av
structure Sto where
  point : ByteArray
  time : Int
  pass : ByteArray
  deriving Inhabited
def eSto (x : Sto) : List DV := [.fl (.string x.point), .fl (.int .i64 x.time), .fl (.string x.pass)]
structure Tp where
  id : ByteArray
  veh : ByteArray
  sys : ByteArray
  cls : Int
  stops : List Sto
  deriving Inhabited
def eTp (x : Tp) : List DV := [.fl (.string x.id), .fl (.string x.veh), .fl (.string x.sys), .fl (.int .i64 x.cls), .sl 3 (List.map eSto x.stops)]
structure Iv where
  fr : Int
  to : Int
  deriving Inhabited
def eIv (x : Iv) : List DV := [.fl (.int .i64 x.fr), .fl (.int .i64 x.to)]
theorem ti3 : TI Tryz.prog 3 (.int .i64 0) 1 8 := ti_of (by kernel_rfl)
theorem ti4 : TI Tryz.prog 4 (.bool false) 1 1 := ti_of (by kernel_rfl)
theorem ti9 : TI Tryz.prog 9 (.string ⟨#[]⟩) 1 16 := ti_of (by kernel_rfl)
theorem ti22 : TI Tryz.prog 22 (.slice none 0 0) 1 24 := ti_of (by kernel_rfl)
theorem ti24 : TI Tryz.prog 24 (.agg #[.string ⟨#[]⟩, .string ⟨#[]⟩, .string ⟨#[]⟩, .int .i64 0, .slice none 0 0]) 5 80 := ti_of (by kernel_rfl)
theorem ti26 : TI Tryz.prog 26 (.slice none 0 0) 1 24 := ti_of (by kernel_rfl)
theorem ti29 : TI Tryz.prog 29 (.agg #[.string ⟨#[]⟩, .int .i64 0, .string ⟨#[]⟩]) 3 40 := ti_of (by kernel_rfl)
theorem ti32 : TI Tryz.prog 32 (.agg #[.int .i64 0, .int .i64 0]) 2 16 := ti_of (by kernel_rfl)
theorem nm3 : (Tryz.f3.name == "runtime.NumGoroutine") = false := by kernel_rfl
theorem nm4 : (Tryz.f4.name == "runtime.NumGoroutine") = false := by kernel_rfl
theorem nm5 : (Tryz.f5.name == "runtime.NumGoroutine") = false := by kernel_rfl
theorem nm6 : (Tryz.f6.name == "runtime.NumGoroutine") = false := by kernel_rfl
theorem nm7 : (Tryz.f7.name == "runtime.NumGoroutine") = false := by kernel_rfl
theorem nm8 : (Tryz.f8.name == "runtime.NumGoroutine") = false := by kernel_rfl
theorem nm9 : (Tryz.f9.name == "runtime.NumGoroutine") = false := by kernel_rfl
theorem nm10 : (Tryz.f10.name == "runtime.NumGoroutine") = false := by kernel_rfl

end Go.Proofs.YtknikpnleeamkaaGreat.Wk
