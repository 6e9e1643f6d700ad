/- The types of the program, and data of them. No condition. -/
import Derived.Test.YtaoopadfijkbcaaGreatDoorProg
import Derived.Test.YtaoopadfijkbcaaGreatDoorAvF
set_option linter.unusedSimpArgs false
set_option linter.unusedVariables false
namespace Go.Proofs.YtaoopadfijkbcaaGreatDoor.Wk
open Go Go.RowKit Go.Proofs.YtaoopadfijkbcaaGreatDoor.Av
structure Wd where
  days : Int
  fr : Int
  to : Int
  deriving Inhabited
def eWd (x : Wd) : List DV := [.fl (.int .i64 x.days), .fl (.int .i64 x.fr), .fl (.int .i64 x.to)]
structure Stp where
  upto : Int
  unit : Int
  cents : Int
  deriving Inhabited
def eStp (x : Stp) : List DV := [.fl (.int .i64 x.upto), .fl (.int .i64 x.unit), .fl (.int .i64 x.cents)]
structure Zn where
  name : ByteArray
  hours : List Wd
  steps : List Stp
  grace : Int
  free : Int
  dayMax : Int
  stay : Int
  deriving Inhabited
def eZn (x : Zn) : List DV := [.fl (.string x.name), .sl 3 (List.map eWd x.hours), .sl 3 (List.map eStp x.steps), .fl (.int .i64 x.grace), .fl (.int .i64 x.free), .fl (.int .i64 x.dayMax), .fl (.int .i64 x.stay)]
structure Itv where
  fr : Int
  to : Int
  deriving Inhabited
def eItv (x : Itv) : List DV := [.fl (.int .i64 x.fr), .fl (.int .i64 x.to)]
structure Sty where
  id : ByteArray
  zone : ByteArray
  plate : ByteArray
  time : Itv
  deriving Inhabited
def eSty (x : Sty) : List DV := [.fl (.string x.id), .fl (.string x.zone), .fl (.string x.plate), .fl (.int .i64 x.time.fr), .fl (.int .i64 x.time.to)]
structure Prk where
  kind : Int
  zone : ByteArray
  plate : ByteArray
  time : Int
  un : Int
  deriving Inhabited
def ePrk (x : Prk) : List DV := [.fl (.int .i64 x.kind), .fl (.string x.zone), .fl (.string x.plate), .fl (.int .i64 x.time), .fl (.int .i64 x.un)]
structure Ses where
  id : ByteArray
  zone : ByteArray
  plate : ByteArray
  fr : Int
  un : Int
  state : Int
  seen : List Int
  deriving Inhabited
def eSes (x : Ses) : List DV := [.fl (.string x.id), .fl (.string x.zone), .fl (.string x.plate), .fl (.int .i64 x.fr), .fl (.int .i64 x.un), .fl (.int .i64 x.state), .sl 1 (List.map (rI .i64) x.seen)]
structure Prm where
  name : ByteArray
  zone : ByteArray
  plates : List ByteArray
  valid : Itv
  hours : List Wd
  most : Int
  deriving Inhabited
def ePrm (x : Prm) : List DV := [.fl (.string x.name), .fl (.string x.zone), .sl 1 (List.map rS x.plates), .fl (.int .i64 x.valid.fr), .fl (.int .i64 x.valid.to), .sl 3 (List.map eWd x.hours), .fl (.int .i64 x.most)]
structure Clm where
  zones : List Zn
  sess : List Ses
  perms : List Prm
  deriving Inhabited
def eClm (x : Clm) : List DV := [.sl 7 (List.map eZn x.zones), .sl 7 (List.map eSes x.sess), .sl 7 (List.map ePrm x.perms)]
theorem ti3 : TI Tryz.prog 3 (.int .i64 0) 1 8 := ti_of (by kernel_rfl)
theorem ti5 : TI Tryz.prog 5 (.int .u8 0) 1 1 := ti_of (by kernel_rfl)
theorem ti9 : TI Tryz.prog 9 (.string ⟨#[]⟩) 1 16 := ti_of (by kernel_rfl)
theorem ti23 : TI Tryz.prog 23 (.agg #[.int .i64 0, .string ⟨#[]⟩, .string ⟨#[]⟩, .int .i64 0, .int .i64 0]) 5 56 := ti_of (by kernel_rfl)
theorem ti24 : TI Tryz.prog 24 (.slice none 0 0) 1 24 := ti_of (by kernel_rfl)
theorem ti34 : TI Tryz.prog 34 (.agg #[.int .i64 0, .int .i64 0]) 2 16 := ti_of (by kernel_rfl)
theorem ti36 : TI Tryz.prog 36 (.agg #[.string ⟨#[]⟩, .string ⟨#[]⟩, .string ⟨#[]⟩, .int .i64 0, .int .i64 0]) 5 64 := ti_of (by kernel_rfl)
theorem ti39 : TI Tryz.prog 39 (.slice none 0 0) 1 24 := ti_of (by kernel_rfl)
theorem ti40 : TI Tryz.prog 40 (.slice none 0 0) 1 24 := ti_of (by kernel_rfl)
theorem ti42 : TI Tryz.prog 42 (.agg #[.slice none 0 0, .slice none 0 0, .slice none 0 0]) 3 72 := ti_of (by kernel_rfl)
theorem ti47 : TI Tryz.prog 47 (.slice none 0 0) 1 24 := ti_of (by kernel_rfl)
theorem ti48 : TI Tryz.prog 48 (.slice none 0 0) 1 24 := ti_of (by kernel_rfl)
theorem ti50 : TI Tryz.prog 50 (.agg #[.string ⟨#[]⟩, .slice none 0 0, .slice none 0 0, .int .i64 0, .int .i64 0, .int .i64 0, .int .i64 0]) 7 96 := ti_of (by kernel_rfl)
theorem ti52 : TI Tryz.prog 52 (.agg #[.int .i64 0, .int .i64 0, .int .i64 0]) 3 24 := ti_of (by kernel_rfl)
theorem ti147 : TI Tryz.prog 147 (.agg #[.int .i64 0, .int .i64 0, .int .i64 0]) 3 24 := ti_of (by kernel_rfl)
theorem nm10 : (Tryz.f10.name == "runtime.NumGoroutine") = false := by kernel_rfl
theorem nm11 : (Tryz.f11.name == "runtime.NumGoroutine") = false := by kernel_rfl
theorem nm12 : (Tryz.f12.name == "runtime.NumGoroutine") = false := by kernel_rfl
theorem nm13 : (Tryz.f13.name == "runtime.NumGoroutine") = false := by kernel_rfl
theorem nm14 : (Tryz.f14.name == "runtime.NumGoroutine") = false := by kernel_rfl
theorem nm15 : (Tryz.f15.name == "runtime.NumGoroutine") = false := by kernel_rfl
theorem nm16 : (Tryz.f16.name == "runtime.NumGoroutine") = false := by kernel_rfl
theorem nm17 : (Tryz.f17.name == "runtime.NumGoroutine") = false := by kernel_rfl
theorem nm18 : (Tryz.f18.name == "runtime.NumGoroutine") = false := by kernel_rfl
theorem nm31 : (Tryz.f31.name == "runtime.NumGoroutine") = false := by kernel_rfl
theorem nm33 : (Tryz.f33.name == "runtime.NumGoroutine") = false := by kernel_rfl
theorem nm34 : (Tryz.f34.name == "runtime.NumGoroutine") = false := by kernel_rfl
theorem nm35 : (Tryz.f35.name == "runtime.NumGoroutine") = false := by kernel_rfl
theorem nm42 : (Tryz.f42.name == "runtime.NumGoroutine") = false := by kernel_rfl
theorem nm43 : (Tryz.f43.name == "runtime.NumGoroutine") = false := by kernel_rfl
theorem nm44 : (Tryz.f44.name == "runtime.NumGoroutine") = false := by kernel_rfl
theorem nm45 : (Tryz.f45.name == "runtime.NumGoroutine") = false := by kernel_rfl
theorem nm46 : (Tryz.f46.name == "runtime.NumGoroutine") = false := by kernel_rfl
theorem nm47 : (Tryz.f47.name == "runtime.NumGoroutine") = false := by kernel_rfl
theorem nm48 : (Tryz.f48.name == "runtime.NumGoroutine") = false := by kernel_rfl
theorem nm75 : (Tryz.f75.name == "runtime.NumGoroutine") = false := by kernel_rfl
theorem nm76 : (Tryz.f76.name == "runtime.NumGoroutine") = false := by kernel_rfl
theorem nm77 : (Tryz.f77.name == "runtime.NumGoroutine") = false := by kernel_rfl
theorem nm78 : (Tryz.f78.name == "runtime.NumGoroutine") = false := by kernel_rfl
theorem nm79 : (Tryz.f79.name == "runtime.NumGoroutine") = false := by kernel_rfl
theorem nm80 : (Tryz.f80.name == "runtime.NumGoroutine") = false := by kernel_rfl
theorem nm82 : (Tryz.f82.name == "runtime.NumGoroutine") = false := by kernel_rfl
theorem nm83 : (Tryz.f83.name == "runtime.NumGoroutine") = false := by kernel_rfl
theorem nm84 : (Tryz.f84.name == "runtime.NumGoroutine") = false := by kernel_rfl
theorem nm108 : (Tryz.f108.name == "runtime.NumGoroutine") = false := by kernel_rfl
theorem nm109 : (Tryz.f109.name == "runtime.NumGoroutine") = false := by kernel_rfl
end Go.Proofs.YtaoopadfijkbcaaGreatDoor.Wk
