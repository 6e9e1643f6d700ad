/- The types of the program, and data of them. No condition. -/
import Derived.Test.YtlmihhecpaomjaaProg
import Derived.Test.YtlmihhecpaomjaaAvF
set_option linter.unusedSimpArgs false
set_option linter.unusedVariables false
namespace Go.Proofs.Ytlmihhecpaomjaa.Wk
open Go Go.RowKit Go.Proofs.Ytlmihhecpaomjaa.Av
structure Pnt where
  name : ByteArray
  kind : Int
  sys : ByteArray
  deriving Inhabited
def ePnt (x : Pnt) : List DV := [.fl (.string x.name), .fl (.int .i64 x.kind), .fl (.string x.sys)]
structure Lnk where
  fr : ByteArray
  to : ByteArray
  lo : Int
  hi : Int
  deriving Inhabited
def eLnk (x : Lnk) : List DV := [.fl (.string x.fr), .fl (.string x.to), .fl (.int .i64 x.lo), .fl (.int .i64 x.hi)]
structure Nwk where
  pts : List Pnt
  lks : List Lnk
  deriving Inhabited
def eNwk (x : Nwk) : List DV := [.sl 3 (List.map ePnt x.pts), .sl 4 (List.map eLnk x.lks)]
structure Sys where
  name : ByteArray
  closed : Bool
  most : Int
  deriving Inhabited
def eSys (x : Sys) : List DV := [.fl (.string x.name), .fl (.bool x.closed), .fl (.int .i64 x.most)]
structure Tpg where
  net : Nwk
  syss : List Sys
  deriving Inhabited
def eTpg (x : Tpg) : List DV := [.sl 3 (List.map ePnt x.net.pts), .sl 4 (List.map eLnk x.net.lks), .sl 3 (List.map eSys x.syss)]
structure Iv where
  fr : Int
  to : Int
  deriving Inhabited
def eIv (x : Iv) : List DV := [.fl (.int .i64 x.fr), .fl (.int .i64 x.to)]
structure Wd where
  days : Int
  fr : Int
  to : Int
  deriving Inhabited
def eWd (x : Wd) : List DV := [.fl (.int .i64 x.days), .fl (.int .i64 x.fr), .fl (.int .i64 x.to)]
structure Bd where
  name : ByteArray
  win : Wd
  deriving Inhabited
def eBd (x : Bd) : List DV := [.fl (.string x.name), .fl (.int .i64 x.win.days), .fl (.int .i64 x.win.fr), .fl (.int .i64 x.win.to)]
structure Rt where
  fr : ByteArray
  to : ByteArray
  cls : Int
  band : ByteArray
  cents : Int
  deriving Inhabited
def eRt (x : Rt) : List DV := [.fl (.string x.fr), .fl (.string x.to), .fl (.int .i64 x.cls), .fl (.string x.band), .fl (.int .i64 x.cents)]
structure Ta where
  val : Iv
  bands : List Bd
  rates : List Rt
  deriving Inhabited
def eTa (x : Ta) : List DV := [.fl (.int .i64 x.val.fr), .fl (.int .i64 x.val.to), .sl 4 (List.map eBd x.bands), .sl 5 (List.map eRt x.rates)]
theorem ti3 : TI Try.prog 3 (.int .i64 0) 1 8 := ti_of (by kernel_rfl)
theorem ti4 : TI Try.prog 4 (.bool false) 1 1 := ti_of (by kernel_rfl)
theorem ti9 : TI Try.prog 9 (.string ⟨#[]⟩) 1 16 := ti_of (by kernel_rfl)
theorem ti23 : TI Try.prog 23 (.agg #[.int .i64 0, .int .i64 0]) 2 16 := ti_of (by kernel_rfl)
theorem ti24 : TI Try.prog 24 (.slice none 0 0) 1 24 := ti_of (by kernel_rfl)
theorem ti25 : TI Try.prog 25 (.slice none 0 0) 1 24 := ti_of (by kernel_rfl)
theorem ti27 : TI Try.prog 27 (.agg #[.int .i64 0, .int .i64 0, .slice none 0 0, .slice none 0 0]) 4 64 := ti_of (by kernel_rfl)
theorem ti28 : TI Try.prog 28 (.slice none 0 0) 1 24 := ti_of (by kernel_rfl)
theorem ti29 : TI Try.prog 29 (.slice none 0 0) 1 24 := ti_of (by kernel_rfl)
theorem ti31 : TI Try.prog 31 (.agg #[.slice none 0 0, .slice none 0 0]) 2 48 := ti_of (by kernel_rfl)
theorem ti32 : TI Try.prog 32 (.slice none 0 0) 1 24 := ti_of (by kernel_rfl)
theorem ti34 : TI Try.prog 34 (.agg #[.slice none 0 0, .slice none 0 0, .slice none 0 0]) 3 72 := ti_of (by kernel_rfl)
theorem ti57 : TI Try.prog 57 (.agg #[.int .i64 0, .int .i64 0, .int .i64 0]) 3 24 := ti_of (by kernel_rfl)
theorem ti59 : TI Try.prog 59 (.agg #[.string ⟨#[]⟩, .int .i64 0, .int .i64 0, .int .i64 0]) 4 40 := ti_of (by kernel_rfl)
theorem ti68 : TI Try.prog 68 (.agg #[.string ⟨#[]⟩, .string ⟨#[]⟩, .int .i64 0, .string ⟨#[]⟩, .int .i64 0]) 5 64 := ti_of (by kernel_rfl)
theorem ti80 : TI Try.prog 80 (.agg #[.string ⟨#[]⟩, .int .i64 0, .string ⟨#[]⟩]) 3 40 := ti_of (by kernel_rfl)
theorem ti94 : TI Try.prog 94 (.agg #[.string ⟨#[]⟩, .bool false, .int .i64 0]) 3 32 := ti_of (by kernel_rfl)
theorem ti104 : TI Try.prog 104 (.agg #[.string ⟨#[]⟩, .string ⟨#[]⟩, .int .i64 0, .int .i64 0]) 4 48 := ti_of (by kernel_rfl)
theorem ti105 : TI Try.prog 105 (.agg #[.string ⟨#[]⟩, .string ⟨#[]⟩]) 2 32 := ti_of (by kernel_rfl)
theorem nm6 : (Try.f6.name == "runtime.NumGoroutine") = false := by kernel_rfl
theorem nm7 : (Try.f7.name == "runtime.NumGoroutine") = false := by kernel_rfl
theorem nm10 : (Try.f10.name == "runtime.NumGoroutine") = false := by kernel_rfl
theorem nm11 : (Try.f11.name == "runtime.NumGoroutine") = false := by kernel_rfl
theorem nm12 : (Try.f12.name == "runtime.NumGoroutine") = false := by kernel_rfl
theorem nm14 : (Try.f14.name == "runtime.NumGoroutine") = false := by kernel_rfl
theorem nm15 : (Try.f15.name == "runtime.NumGoroutine") = false := by kernel_rfl
theorem nm16 : (Try.f16.name == "runtime.NumGoroutine") = false := by kernel_rfl
theorem nm17 : (Try.f17.name == "runtime.NumGoroutine") = false := by kernel_rfl
theorem nm26 : (Try.f26.name == "runtime.NumGoroutine") = false := by kernel_rfl
theorem nm27 : (Try.f27.name == "runtime.NumGoroutine") = false := by kernel_rfl
theorem nm28 : (Try.f28.name == "runtime.NumGoroutine") = false := by kernel_rfl
theorem nm29 : (Try.f29.name == "runtime.NumGoroutine") = false := by kernel_rfl
theorem nm30 : (Try.f30.name == "runtime.NumGoroutine") = false := by kernel_rfl
theorem nm31 : (Try.f31.name == "runtime.NumGoroutine") = false := by kernel_rfl
theorem nm32 : (Try.f32.name == "runtime.NumGoroutine") = false := by kernel_rfl
theorem nm33 : (Try.f33.name == "runtime.NumGoroutine") = false := by kernel_rfl
theorem nm34 : (Try.f34.name == "runtime.NumGoroutine") = false := by kernel_rfl
theorem nm35 : (Try.f35.name == "runtime.NumGoroutine") = false := by kernel_rfl
theorem nm43 : (Try.f43.name == "runtime.NumGoroutine") = false := by kernel_rfl
theorem nm44 : (Try.f44.name == "runtime.NumGoroutine") = false := by kernel_rfl
theorem nm45 : (Try.f45.name == "runtime.NumGoroutine") = false := by kernel_rfl
theorem nm46 : (Try.f46.name == "runtime.NumGoroutine") = false := by kernel_rfl
end Go.Proofs.Ytlmihhecpaomjaa.Wk
