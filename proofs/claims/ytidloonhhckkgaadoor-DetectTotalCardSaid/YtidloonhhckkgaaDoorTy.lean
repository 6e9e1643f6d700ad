/- The types of the program, and data of them. No condition. -/
import Derived.Test.YtidloonhhckkgaaDoorProg
import Derived.Test.YtidloonhhckkgaaDoorAvF
set_option linter.unusedSimpArgs false
set_option linter.unusedVariables false
namespace Go.Proofs.YtidloonhhckkgaaDoor.Wk
open Go Go.RowKit Go.Proofs.YtidloonhhckkgaaDoor.Av
structure De where
  dev : ByteArray
  seq : Int
  time : Int
  tag : ByteArray
  plate : ByteArray
  axles : Int
  score : Int
  deriving Inhabited
def eDe (x : De) : List DV := [.fl (.string x.dev), .fl (.int .i64 x.seq), .fl (.int .i64 x.time), .fl (.string x.tag), .fl (.string x.plate), .fl (.int .i64 x.axles), .fl (.int .i64 x.score)]
structure Sn where
  d : De
  time : Int
  point : ByteArray
  lane : Int
  kind : Int
  deriving Inhabited
def eSn (x : Sn) : List DV := [.fl (.string x.d.dev), .fl (.int .i64 x.d.seq), .fl (.int .i64 x.d.time), .fl (.string x.d.tag), .fl (.string x.d.plate), .fl (.int .i64 x.d.axles), .fl (.int .i64 x.d.score), .fl (.int .i64 x.time), .fl (.string x.point), .fl (.int .i64 x.lane), .fl (.int .i64 x.kind)]
structure Rj where
  d : De
  why : Int
  deriving Inhabited
def eRj (x : Rj) : List DV := [.fl (.string x.d.dev), .fl (.int .i64 x.d.seq), .fl (.int .i64 x.d.time), .fl (.string x.d.tag), .fl (.string x.d.plate), .fl (.int .i64 x.d.axles), .fl (.int .i64 x.d.score), .fl (.int .i64 x.why)]
theorem ti3 : TI Tryd.prog 3 (.int .i64 0) 1 8 := ti_of (by kernel_rfl)
theorem ti4 : TI Tryd.prog 4 (.bool false) 1 1 := ti_of (by kernel_rfl)
theorem ti5 : TI Tryd.prog 5 (.int .u8 0) 1 1 := ti_of (by kernel_rfl)
theorem ti9 : TI Tryd.prog 9 (.string ⟨#[]⟩) 1 16 := ti_of (by kernel_rfl)
theorem ti23 : TI Tryd.prog 23 (.agg #[.string ⟨#[]⟩, .int .i64 0, .int .i64 0, .string ⟨#[]⟩, .string ⟨#[]⟩, .int .i64 0, .int .i64 0]) 7 80 := ti_of (by kernel_rfl)
theorem ti25 : TI Tryd.prog 25 (.agg #[.string ⟨#[]⟩, .int .i64 0, .int .i64 0, .string ⟨#[]⟩, .string ⟨#[]⟩, .int .i64 0, .int .i64 0, .int .i64 0, .string ⟨#[]⟩, .int .i64 0, .int .i64 0]) 11 120 := ti_of (by kernel_rfl)
theorem ti29 : TI Tryd.prog 29 (.agg #[.string ⟨#[]⟩, .int .i64 0, .int .i64 0, .string ⟨#[]⟩, .string ⟨#[]⟩, .int .i64 0, .int .i64 0, .int .i64 0]) 8 88 := ti_of (by kernel_rfl)
theorem ti55 : TI Tryd.prog 55 (.slice none 0 0) 1 24 := ti_of (by kernel_rfl)
theorem nm3 : (Tryd.f3.name == "runtime.NumGoroutine") = false := by kernel_rfl
theorem nm4 : (Tryd.f4.name == "runtime.NumGoroutine") = false := by kernel_rfl
theorem nm5 : (Tryd.f5.name == "runtime.NumGoroutine") = false := by kernel_rfl
theorem nm6 : (Tryd.f6.name == "runtime.NumGoroutine") = false := by kernel_rfl
theorem nm7 : (Tryd.f7.name == "runtime.NumGoroutine") = false := by kernel_rfl
theorem nm8 : (Tryd.f8.name == "runtime.NumGoroutine") = false := by kernel_rfl
theorem nm9 : (Tryd.f9.name == "runtime.NumGoroutine") = false := by kernel_rfl
theorem nm10 : (Tryd.f10.name == "runtime.NumGoroutine") = false := by kernel_rfl
theorem nm18 : (Tryd.f18.name == "runtime.NumGoroutine") = false := by kernel_rfl
theorem nm19 : (Tryd.f19.name == "runtime.NumGoroutine") = false := by kernel_rfl
theorem nm20 : (Tryd.f20.name == "runtime.NumGoroutine") = false := by kernel_rfl
theorem nm21 : (Tryd.f21.name == "runtime.NumGoroutine") = false := by kernel_rfl
theorem nm22 : (Tryd.f22.name == "runtime.NumGoroutine") = false := by kernel_rfl
theorem nm23 : (Tryd.f23.name == "runtime.NumGoroutine") = false := by kernel_rfl
theorem nm24 : (Tryd.f24.name == "runtime.NumGoroutine") = false := by kernel_rfl
theorem nm25 : (Tryd.f25.name == "runtime.NumGoroutine") = false := by kernel_rfl
theorem nm26 : (Tryd.f26.name == "runtime.NumGoroutine") = false := by kernel_rfl
theorem nm27 : (Tryd.f27.name == "runtime.NumGoroutine") = false := by kernel_rfl
theorem nm34 : (Tryd.f34.name == "runtime.NumGoroutine") = false := by kernel_rfl
theorem nm35 : (Tryd.f35.name == "runtime.NumGoroutine") = false := by kernel_rfl
theorem nm36 : (Tryd.f36.name == "runtime.NumGoroutine") = false := by kernel_rfl
end Go.Proofs.YtidloonhhckkgaaDoor.Wk
