/- The types of the program, and data of them. No condition. -/
import Derived.Test.YtgcagigpolnjfaaProg
import Derived.Test.YtgcagigpolnjfaaAv42
set_option linter.unusedSimpArgs false
set_option linter.unusedVariables false
namespace Go.Proofs.Ytgcagigpolnjfaa.Wk
open Go Go.RowKit Go.Proofs.Ytgcagigpolnjfaa.Av
structure Iv where
  fr : Int
  to : Int
  deriving Inhabited
def eIv (x : Iv) : List DV := [.fl (.int .i64 x.fr), .fl (.int .i64 x.to)]
structure Wd where
  days : Int
  fr : Int
  to : Int
  deriving Inhabited
def eWd (x : Wd) : List DV := [.fl (.int .i64 x.days), .fl (.int .i64 x.fr), .fl (.int .i64 x.to)]
structure Bd where
  name : ByteArray
  win : Wd
  deriving Inhabited
def eBd (x : Bd) : List DV := [.fl (.string x.name), .fl (.int .i64 x.win.days), .fl (.int .i64 x.win.fr), .fl (.int .i64 x.win.to)]
structure Rt where
  fr : ByteArray
  to : ByteArray
  cls : Int
  band : ByteArray
  cents : Int
  deriving Inhabited
def eRt (x : Rt) : List DV := [.fl (.string x.fr), .fl (.string x.to), .fl (.int .i64 x.cls), .fl (.string x.band), .fl (.int .i64 x.cents)]
structure Ta where
  val : Iv
  bands : List Bd
  rates : List Rt
  deriving Inhabited
def eTa (x : Ta) : List DV := [.fl (.int .i64 x.val.fr), .fl (.int .i64 x.val.to), .sl 4 (List.map eBd x.bands), .sl 5 (List.map eRt x.rates)]
structure Ask where
  fr : ByteArray
  to : ByteArray
  cls : Int
  time : Int
  deriving Inhabited
def eAsk (x : Ask) : List DV := [.fl (.string x.fr), .fl (.string x.to), .fl (.int .i64 x.cls), .fl (.int .i64 x.time)]
theorem ti3 : TI Try.prog 3 (.int .i64 0) 1 8 := ti_of (by kernel_rfl)
theorem ti4 : TI Try.prog 4 (.bool false) 1 1 := ti_of (by kernel_rfl)
theorem ti5 : TI Try.prog 5 (.int .u8 0) 1 1 := ti_of (by kernel_rfl)
theorem ti9 : TI Try.prog 9 (.string ⟨#[]⟩) 1 16 := ti_of (by kernel_rfl)
theorem ti22 : TI Try.prog 22 (.slice none 0 0) 1 24 := ti_of (by kernel_rfl)
theorem ti24 : TI Try.prog 24 (.agg #[.int .i64 0, .int .i64 0]) 2 16 := ti_of (by kernel_rfl)
theorem ti25 : TI Try.prog 25 (.slice none 0 0) 1 24 := ti_of (by kernel_rfl)
theorem ti26 : TI Try.prog 26 (.slice none 0 0) 1 24 := ti_of (by kernel_rfl)
theorem ti28 : TI Try.prog 28 (.agg #[.int .i64 0, .int .i64 0, .slice none 0 0, .slice none 0 0]) 4 64 := ti_of (by kernel_rfl)
theorem ti31 : TI Try.prog 31 (.int .i64 0) 1 8 := ti_of (by kernel_rfl)
theorem ti42 : TI Try.prog 42 (.agg #[.string ⟨#[]⟩, .string ⟨#[]⟩, .int .i64 0, .int .i64 0]) 4 48 := ti_of (by kernel_rfl)
theorem ti46 : TI Try.prog 46 (.agg #[.string ⟨#[]⟩, .string ⟨#[]⟩, .int .i64 0, .string ⟨#[]⟩, .int .i64 0]) 5 64 := ti_of (by kernel_rfl)
theorem ti49 : TI Try.prog 49 (.slice none 0 0) 1 24 := ti_of (by kernel_rfl)
theorem ti52 : TI Try.prog 52 (.agg #[.int .i64 0, .int .i64 0, .int .i64 0]) 3 24 := ti_of (by kernel_rfl)
theorem ti54 : TI Try.prog 54 (.agg #[.string ⟨#[]⟩, .int .i64 0, .int .i64 0, .int .i64 0]) 4 40 := ti_of (by kernel_rfl)
theorem ti59 : TI Try.prog 59 (.slice none 0 0) 1 24 := ti_of (by kernel_rfl)
theorem ti73 : TI Try.prog 73 (.slice none 0 0) 1 24 := ti_of (by kernel_rfl)
theorem nm3 : (Try.f3.name == "runtime.NumGoroutine") = false := by kernel_rfl
theorem nm4 : (Try.f4.name == "runtime.NumGoroutine") = false := by kernel_rfl
theorem nm5 : (Try.f5.name == "runtime.NumGoroutine") = false := by kernel_rfl
theorem nm6 : (Try.f6.name == "runtime.NumGoroutine") = false := by kernel_rfl
theorem nm7 : (Try.f7.name == "runtime.NumGoroutine") = false := by kernel_rfl
theorem nm8 : (Try.f8.name == "runtime.NumGoroutine") = false := by kernel_rfl
theorem nm9 : (Try.f9.name == "runtime.NumGoroutine") = false := by kernel_rfl
theorem nm10 : (Try.f10.name == "runtime.NumGoroutine") = false := by kernel_rfl
theorem nm11 : (Try.f11.name == "runtime.NumGoroutine") = false := by kernel_rfl
theorem nm12 : (Try.f12.name == "runtime.NumGoroutine") = false := by kernel_rfl
theorem nm13 : (Try.f13.name == "runtime.NumGoroutine") = false := by kernel_rfl
theorem nm14 : (Try.f14.name == "runtime.NumGoroutine") = false := by kernel_rfl
theorem nm15 : (Try.f15.name == "runtime.NumGoroutine") = false := by kernel_rfl
theorem nm16 : (Try.f16.name == "runtime.NumGoroutine") = false := by kernel_rfl
theorem nm17 : (Try.f17.name == "runtime.NumGoroutine") = false := by kernel_rfl
theorem nm18 : (Try.f18.name == "runtime.NumGoroutine") = false := by kernel_rfl
theorem nm19 : (Try.f19.name == "runtime.NumGoroutine") = false := by kernel_rfl
theorem nm20 : (Try.f20.name == "runtime.NumGoroutine") = false := by kernel_rfl
theorem nm21 : (Try.f21.name == "runtime.NumGoroutine") = false := by kernel_rfl
theorem nm22 : (Try.f22.name == "runtime.NumGoroutine") = false := by kernel_rfl
theorem nm23 : (Try.f23.name == "runtime.NumGoroutine") = false := by kernel_rfl
theorem nm24 : (Try.f24.name == "runtime.NumGoroutine") = false := by kernel_rfl
theorem nm25 : (Try.f25.name == "runtime.NumGoroutine") = false := by kernel_rfl
theorem nm26 : (Try.f26.name == "runtime.NumGoroutine") = false := by kernel_rfl
theorem nm27 : (Try.f27.name == "runtime.NumGoroutine") = false := by kernel_rfl
theorem nm28 : (Try.f28.name == "runtime.NumGoroutine") = false := by kernel_rfl
theorem nm29 : (Try.f29.name == "runtime.NumGoroutine") = false := by kernel_rfl
theorem nm30 : (Try.f30.name == "runtime.NumGoroutine") = false := by kernel_rfl
theorem nm31 : (Try.f31.name == "runtime.NumGoroutine") = false := by kernel_rfl
theorem nm32 : (Try.f32.name == "runtime.NumGoroutine") = false := by kernel_rfl
theorem nm33 : (Try.f33.name == "runtime.NumGoroutine") = false := by kernel_rfl
theorem nm34 : (Try.f34.name == "runtime.NumGoroutine") = false := by kernel_rfl
theorem nm35 : (Try.f35.name == "runtime.NumGoroutine") = false := by kernel_rfl
theorem nm36 : (Try.f36.name == "runtime.NumGoroutine") = false := by kernel_rfl
theorem nm37 : (Try.f37.name == "runtime.NumGoroutine") = false := by kernel_rfl
theorem nm38 : (Try.f38.name == "runtime.NumGoroutine") = false := by kernel_rfl
theorem nm39 : (Try.f39.name == "runtime.NumGoroutine") = false := by kernel_rfl
theorem nm40 : (Try.f40.name == "runtime.NumGoroutine") = false := by kernel_rfl
theorem nm41 : (Try.f41.name == "runtime.NumGoroutine") = false := by kernel_rfl
theorem nm42 : (Try.f42.name == "runtime.NumGoroutine") = false := by kernel_rfl
theorem nm43 : (Try.f43.name == "runtime.NumGoroutine") = false := by kernel_rfl
theorem nm44 : (Try.f44.name == "runtime.NumGoroutine") = false := by kernel_rfl
theorem nm45 : (Try.f45.name == "runtime.NumGoroutine") = false := by kernel_rfl
theorem nm46 : (Try.f46.name == "runtime.NumGoroutine") = false := by kernel_rfl
end Go.Proofs.Ytgcagigpolnjfaa.Wk
