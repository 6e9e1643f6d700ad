/- The types of the program, and data of them. No condition. -/
import Derived.Test.YtdafmaocbkmmgaaDoorProg
import Derived.Test.YtdafmaocbkmmgaaDoorAv26
set_option linter.unusedSimpArgs false
set_option linter.unusedVariables false
namespace Go.Proofs.YtdafmaocbkmmgaaDoor.Wk
open Go Go.RowKit Go.Proofs.YtdafmaocbkmmgaaDoor.Av
structure Lw where
  days : List Int
  fees : List Int
  limit : Int
  deriving Inhabited
def eLw (x : Lw) : List DV := [.sl 1 (List.map (rI .i64) x.days), .sl 1 (List.map (rI .i64) x.fees), .fl (.int .i64 x.limit)]
structure Ap where
  state : Int
  ground : Int
  day : Int
  deriving Inhabited
def eAp (x : Ap) : List DV := [.fl (.int .i64 x.state), .fl (.int .i64 x.ground), .fl (.int .i64 x.day)]
structure Cs where
  id : ByteArray
  plate : ByteArray
  key : ByteArray
  begun : Int
  since : Int
  stage : Int
  owed : Int
  paid : Int
  paused : Int
  ap : Ap
  deriving Inhabited
def eCs (x : Cs) : List DV := [.fl (.string x.id), .fl (.string x.plate), .fl (.string x.key), .fl (.int .i64 x.begun), .fl (.int .i64 x.since), .fl (.int .i64 x.stage), .fl (.int .i64 x.owed), .fl (.int .i64 x.paid), .fl (.int .i64 x.paused), .fl (.int .i64 x.ap.state), .fl (.int .i64 x.ap.ground), .fl (.int .i64 x.ap.day)]
structure Pu where
  law : Lw
  cal : List Int
  x : Cs
  day : Int
  deriving Inhabited
def ePu (x : Pu) : List DV := [.sl 1 (List.map (rI .i64) x.law.days), .sl 1 (List.map (rI .i64) x.law.fees), .fl (.int .i64 x.law.limit), .sl 1 (List.map (rI .i64) x.cal), .fl (.string x.x.id), .fl (.string x.x.plate), .fl (.string x.x.key), .fl (.int .i64 x.x.begun), .fl (.int .i64 x.x.since), .fl (.int .i64 x.x.stage), .fl (.int .i64 x.x.owed), .fl (.int .i64 x.x.paid), .fl (.int .i64 x.x.paused), .fl (.int .i64 x.x.ap.state), .fl (.int .i64 x.x.ap.ground), .fl (.int .i64 x.x.ap.day), .fl (.int .i64 x.day)]
structure Tn where
  act : Int
  day : Int
  n : Int
  deriving Inhabited
def eTn (x : Tn) : List DV := [.fl (.int .i64 x.act), .fl (.int .i64 x.day), .fl (.int .i64 x.n)]
theorem ti3 : TI Tryd.prog 3 (.int .i64 0) 1 8 := ti_of (by kernel_rfl)
theorem ti4 : TI Tryd.prog 4 (.bool false) 1 1 := ti_of (by kernel_rfl)
theorem ti5 : TI Tryd.prog 5 (.int .u8 0) 1 1 := ti_of (by kernel_rfl)
theorem ti9 : TI Tryd.prog 9 (.string ⟨#[]⟩) 1 16 := ti_of (by kernel_rfl)
theorem ti21 : TI Tryd.prog 21 (.int .i32 0) 1 4 := ti_of (by kernel_rfl)
theorem ti22 : TI Tryd.prog 22 (.slice none 0 0) 1 24 := ti_of (by kernel_rfl)
theorem ti24 : TI Tryd.prog 24 (.agg #[.slice none 0 0, .slice none 0 0, .int .i64 0]) 3 56 := ti_of (by kernel_rfl)
theorem ti25 : TI Tryd.prog 25 (.int .u16 0) 1 2 := ti_of (by kernel_rfl)
theorem ti26 : TI Tryd.prog 26 (.slice none 0 0) 1 24 := ti_of (by kernel_rfl)
theorem ti30 : TI Tryd.prog 30 (.agg #[.int .i64 0, .int .i64 0, .int .i64 0]) 3 24 := ti_of (by kernel_rfl)
theorem ti32 : TI Tryd.prog 32 (.agg #[.string ⟨#[]⟩, .string ⟨#[]⟩, .string ⟨#[]⟩, .int .i64 0, .int .i64 0, .int .i64 0, .int .i64 0, .int .i64 0, .int .i64 0, .int .i64 0, .int .i64 0, .int .i64 0]) 12 120 := ti_of (by kernel_rfl)
theorem ti33 : TI Tryd.prog 33 (.int .i64 0) 1 8 := ti_of (by kernel_rfl)
theorem ti37 : TI Tryd.prog 37 (.agg #[.int .i64 0, .int .i64 0, .int .i64 0]) 3 24 := ti_of (by kernel_rfl)
theorem ti50 : TI Tryd.prog 50 (.agg #[.slice none 0 0, .slice none 0 0, .int .i64 0, .slice none 0 0, .string ⟨#[]⟩, .string ⟨#[]⟩, .string ⟨#[]⟩, .int .i64 0, .int .i64 0, .int .i64 0, .int .i64 0, .int .i64 0, .int .i64 0, .int .i64 0, .int .i64 0, .int .i64 0, .int .i64 0]) 17 208 := ti_of (by kernel_rfl)
theorem ti53 : TI Tryd.prog 53 (.slice none 0 0) 1 24 := ti_of (by kernel_rfl)
theorem ti66 : TI Tryd.prog 66 (.map none) 1 8 := ti_of (by kernel_rfl)
theorem ti69 : TI Tryd.prog 69 (.slice none 0 0) 1 24 := ti_of (by kernel_rfl)
theorem ti71 : TI Tryd.prog 71 (.agg #[.pointer none, .slice none 0 0]) 2 32 := ti_of (by kernel_rfl)
theorem nm3 : (Tryd.f3.name == "runtime.NumGoroutine") = false := by kernel_rfl
theorem nm4 : (Tryd.f4.name == "runtime.NumGoroutine") = false := by kernel_rfl
theorem nm5 : (Tryd.f5.name == "runtime.NumGoroutine") = false := by kernel_rfl
theorem nm6 : (Tryd.f6.name == "runtime.NumGoroutine") = false := by kernel_rfl
theorem nm7 : (Tryd.f7.name == "runtime.NumGoroutine") = false := by kernel_rfl
theorem nm8 : (Tryd.f8.name == "runtime.NumGoroutine") = false := by kernel_rfl
theorem nm9 : (Tryd.f9.name == "runtime.NumGoroutine") = false := by kernel_rfl
theorem nm10 : (Tryd.f10.name == "runtime.NumGoroutine") = false := by kernel_rfl
theorem nm11 : (Tryd.f11.name == "runtime.NumGoroutine") = false := by kernel_rfl
theorem nm12 : (Tryd.f12.name == "runtime.NumGoroutine") = false := by kernel_rfl
theorem nm13 : (Tryd.f13.name == "runtime.NumGoroutine") = false := by kernel_rfl
theorem nm14 : (Tryd.f14.name == "runtime.NumGoroutine") = false := by kernel_rfl
theorem nm15 : (Tryd.f15.name == "runtime.NumGoroutine") = false := by kernel_rfl
theorem nm16 : (Tryd.f16.name == "runtime.NumGoroutine") = false := by kernel_rfl
theorem nm17 : (Tryd.f17.name == "runtime.NumGoroutine") = false := by kernel_rfl
theorem nm18 : (Tryd.f18.name == "runtime.NumGoroutine") = false := by kernel_rfl
theorem nm19 : (Tryd.f19.name == "runtime.NumGoroutine") = false := by kernel_rfl
theorem nm20 : (Tryd.f20.name == "runtime.NumGoroutine") = false := by kernel_rfl
theorem nm21 : (Tryd.f21.name == "runtime.NumGoroutine") = false := by kernel_rfl
theorem nm22 : (Tryd.f22.name == "runtime.NumGoroutine") = false := by kernel_rfl
theorem nm23 : (Tryd.f23.name == "runtime.NumGoroutine") = false := by kernel_rfl
theorem nm24 : (Tryd.f24.name == "runtime.NumGoroutine") = false := by kernel_rfl
theorem nm25 : (Tryd.f25.name == "runtime.NumGoroutine") = false := by kernel_rfl
theorem nm26 : (Tryd.f26.name == "runtime.NumGoroutine") = false := by kernel_rfl
theorem nm27 : (Tryd.f27.name == "runtime.NumGoroutine") = false := by kernel_rfl
theorem nm28 : (Tryd.f28.name == "runtime.NumGoroutine") = false := by kernel_rfl
theorem nm29 : (Tryd.f29.name == "runtime.NumGoroutine") = false := by kernel_rfl
theorem nm30 : (Tryd.f30.name == "runtime.NumGoroutine") = false := by kernel_rfl
theorem nm31 : (Tryd.f31.name == "runtime.NumGoroutine") = false := by kernel_rfl
theorem nm32 : (Tryd.f32.name == "runtime.NumGoroutine") = false := by kernel_rfl
theorem nm33 : (Tryd.f33.name == "runtime.NumGoroutine") = false := by kernel_rfl
theorem nm34 : (Tryd.f34.name == "runtime.NumGoroutine") = false := by kernel_rfl
theorem nm35 : (Tryd.f35.name == "runtime.NumGoroutine") = false := by kernel_rfl
theorem nm36 : (Tryd.f36.name == "runtime.NumGoroutine") = false := by kernel_rfl
theorem nm37 : (Tryd.f37.name == "runtime.NumGoroutine") = false := by kernel_rfl
theorem nm38 : (Tryd.f38.name == "runtime.NumGoroutine") = false := by kernel_rfl
theorem nm39 : (Tryd.f39.name == "runtime.NumGoroutine") = false := by kernel_rfl
theorem nm40 : (Tryd.f40.name == "runtime.NumGoroutine") = false := by kernel_rfl
theorem nm41 : (Tryd.f41.name == "runtime.NumGoroutine") = false := by kernel_rfl
theorem nm42 : (Tryd.f42.name == "runtime.NumGoroutine") = false := by kernel_rfl
theorem nm43 : (Tryd.f43.name == "runtime.NumGoroutine") = false := by kernel_rfl
theorem nm44 : (Tryd.f44.name == "runtime.NumGoroutine") = false := by kernel_rfl
theorem nm45 : (Tryd.f45.name == "runtime.NumGoroutine") = false := by kernel_rfl
theorem nm48 : (Tryd.f48.name == "runtime.NumGoroutine") = false := by kernel_rfl
end Go.Proofs.YtdafmaocbkmmgaaDoor.Wk
