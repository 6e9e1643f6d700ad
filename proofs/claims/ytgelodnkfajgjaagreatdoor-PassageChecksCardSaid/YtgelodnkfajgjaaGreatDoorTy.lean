/- The types of the program, and data of them. No condition. -/
import Derived.Test.YtgelodnkfajgjaaGreatDoorProg
import Derived.Test.YtgelodnkfajgjaaGreatDoorAvF
set_option linter.unusedSimpArgs false
set_option linter.unusedVariables false
namespace Go.Proofs.YtgelodnkfajgjaaGreatDoor.Wk
open Go Go.RowKit Go.Proofs.YtgelodnkfajgjaaGreatDoor.Av
structure Src where
  dev : ByteArray
  seq : Int
  deriving Inhabited
def eSrc (x : Src) : List DV := [.fl (.string x.dev), .fl (.int .i64 x.seq)]
structure Psg where
  id : ByteArray
  point : ByteArray
  time : Int
  tag : ByteArray
  plate : ByteArray
  cls : Int
  score : Int
  src : List Src
  deriving Inhabited
def ePsg (x : Psg) : List DV := [.fl (.string x.id), .fl (.string x.point), .fl (.int .i64 x.time), .fl (.string x.tag), .fl (.string x.plate), .fl (.int .i64 x.cls), .fl (.int .i64 x.score), .sl 2 (List.map eSrc x.src)]
structure Pnt where
  name : ByteArray
  kind : Int
  sys : ByteArray
  deriving Inhabited
def ePnt (x : Pnt) : List DV := [.fl (.string x.name), .fl (.int .i64 x.kind), .fl (.string x.sys)]
structure Lnk where
  fr : ByteArray
  to : ByteArray
  lo : Int
  hi : Int
  deriving Inhabited
def eLnk (x : Lnk) : List DV := [.fl (.string x.fr), .fl (.string x.to), .fl (.int .i64 x.lo), .fl (.int .i64 x.hi)]
structure Nwk where
  pts : List Pnt
  lks : List Lnk
  deriving Inhabited
def eNwk (x : Nwk) : List DV := [.sl 3 (List.map ePnt x.pts), .sl 4 (List.map eLnk x.lks)]
theorem ti3 : TI Tryz.prog 3 (.int .i64 0) 1 8 := ti_of (by kernel_rfl)
theorem ti4 : TI Tryz.prog 4 (.bool false) 1 1 := ti_of (by kernel_rfl)
theorem ti5 : TI Tryz.prog 5 (.int .u8 0) 1 1 := ti_of (by kernel_rfl)
theorem ti9 : TI Tryz.prog 9 (.string ⟨#[]⟩) 1 16 := ti_of (by kernel_rfl)
theorem ti22 : TI Tryz.prog 22 (.slice none 0 0) 1 24 := ti_of (by kernel_rfl)
theorem ti24 : TI Tryz.prog 24 (.agg #[.string ⟨#[]⟩, .string ⟨#[]⟩, .int .i64 0, .string ⟨#[]⟩, .string ⟨#[]⟩, .int .i64 0, .int .i64 0, .slice none 0 0]) 8 112 := ti_of (by kernel_rfl)
theorem ti25 : TI Tryz.prog 25 (.slice none 0 0) 1 24 := ti_of (by kernel_rfl)
theorem ti29 : TI Tryz.prog 29 (.agg #[.string ⟨#[]⟩, .int .i64 0, .string ⟨#[]⟩]) 3 40 := ti_of (by kernel_rfl)
theorem ti30 : TI Tryz.prog 30 (.slice none 0 0) 1 24 := ti_of (by kernel_rfl)
theorem ti32 : TI Tryz.prog 32 (.agg #[.slice none 0 0, .slice none 0 0]) 2 48 := ti_of (by kernel_rfl)
theorem ti51 : TI Tryz.prog 51 (.agg #[.string ⟨#[]⟩, .int .i64 0]) 2 24 := ti_of (by kernel_rfl)
theorem ti152 : TI Tryz.prog 152 (.agg #[.string ⟨#[]⟩, .string ⟨#[]⟩, .int .i64 0, .int .i64 0]) 4 48 := ti_of (by kernel_rfl)
theorem ti153 : TI Tryz.prog 153 (.agg #[.string ⟨#[]⟩, .string ⟨#[]⟩]) 2 32 := ti_of (by kernel_rfl)
theorem nm5 : (Tryz.f5.name == "runtime.NumGoroutine") = false := by kernel_rfl
theorem nm6 : (Tryz.f6.name == "runtime.NumGoroutine") = false := by kernel_rfl
theorem nm7 : (Tryz.f7.name == "runtime.NumGoroutine") = false := by kernel_rfl
theorem nm8 : (Tryz.f8.name == "runtime.NumGoroutine") = false := by kernel_rfl
theorem nm9 : (Tryz.f9.name == "runtime.NumGoroutine") = false := by kernel_rfl
theorem nm10 : (Tryz.f10.name == "runtime.NumGoroutine") = false := by kernel_rfl
theorem nm11 : (Tryz.f11.name == "runtime.NumGoroutine") = false := by kernel_rfl
theorem nm12 : (Tryz.f12.name == "runtime.NumGoroutine") = false := by kernel_rfl
theorem nm26 : (Tryz.f26.name == "runtime.NumGoroutine") = false := by kernel_rfl
theorem nm27 : (Tryz.f27.name == "runtime.NumGoroutine") = false := by kernel_rfl
theorem nm28 : (Tryz.f28.name == "runtime.NumGoroutine") = false := by kernel_rfl
theorem nm29 : (Tryz.f29.name == "runtime.NumGoroutine") = false := by kernel_rfl
theorem nm30 : (Tryz.f30.name == "runtime.NumGoroutine") = false := by kernel_rfl
theorem nm31 : (Tryz.f31.name == "runtime.NumGoroutine") = false := by kernel_rfl
theorem nm32 : (Tryz.f32.name == "runtime.NumGoroutine") = false := by kernel_rfl
theorem nm33 : (Tryz.f33.name == "runtime.NumGoroutine") = false := by kernel_rfl
theorem nm34 : (Tryz.f34.name == "runtime.NumGoroutine") = false := by kernel_rfl
theorem nm35 : (Tryz.f35.name == "runtime.NumGoroutine") = false := by kernel_rfl
theorem nm36 : (Tryz.f36.name == "runtime.NumGoroutine") = false := by kernel_rfl
theorem nm37 : (Tryz.f37.name == "runtime.NumGoroutine") = false := by kernel_rfl
theorem nm62 : (Tryz.f62.name == "runtime.NumGoroutine") = false := by kernel_rfl
theorem nm64 : (Tryz.f64.name == "runtime.NumGoroutine") = false := by kernel_rfl
theorem nm65 : (Tryz.f65.name == "runtime.NumGoroutine") = false := by kernel_rfl
theorem nm66 : (Tryz.f66.name == "runtime.NumGoroutine") = false := by kernel_rfl
theorem nm67 : (Tryz.f67.name == "runtime.NumGoroutine") = false := by kernel_rfl
theorem nm68 : (Tryz.f68.name == "runtime.NumGoroutine") = false := by kernel_rfl
theorem nm70 : (Tryz.f70.name == "runtime.NumGoroutine") = false := by kernel_rfl
theorem nm71 : (Tryz.f71.name == "runtime.NumGoroutine") = false := by kernel_rfl
theorem nm72 : (Tryz.f72.name == "runtime.NumGoroutine") = false := by kernel_rfl
theorem nm78 : (Tryz.f78.name == "runtime.NumGoroutine") = false := by kernel_rfl
theorem nm79 : (Tryz.f79.name == "runtime.NumGoroutine") = false := by kernel_rfl
theorem nm80 : (Tryz.f80.name == "runtime.NumGoroutine") = false := by kernel_rfl
theorem nm105 : (Tryz.f105.name == "runtime.NumGoroutine") = false := by kernel_rfl
theorem nm107 : (Tryz.f107.name == "runtime.NumGoroutine") = false := by kernel_rfl
theorem nm108 : (Tryz.f108.name == "runtime.NumGoroutine") = false := by kernel_rfl
theorem nm109 : (Tryz.f109.name == "runtime.NumGoroutine") = false := by kernel_rfl
theorem nm113 : (Tryz.f113.name == "runtime.NumGoroutine") = false := by kernel_rfl
theorem nm114 : (Tryz.f114.name == "runtime.NumGoroutine") = false := by kernel_rfl
theorem nm118 : (Tryz.f118.name == "runtime.NumGoroutine") = false := by kernel_rfl
end Go.Proofs.YtgelodnkfajgjaaGreatDoor.Wk
