/- The types of the program, and data of them. No condition. -/
import Derived.Test.YtjbhikldmaljaaaProg
import Derived.Test.YtjbhikldmaljaaaAvF
set_option linter.unusedSimpArgs false
set_option linter.unusedVariables false
namespace Go.Proofs.Ytjbhikldmaljaaa.Wk
open Go Go.RowKit Go.Proofs.Ytjbhikldmaljaaa.Av
structure Pnt where
  name : ByteArray
  kind : Int
  sys : ByteArray
  deriving Inhabited
def ePnt (x : Pnt) : List DV := [.fl (.string x.name), .fl (.int .i64 x.kind), .fl (.string x.sys)]
structure Lnk where
  fr : ByteArray
  to : ByteArray
  lo : Int
  hi : Int
  deriving Inhabited
def eLnk (x : Lnk) : List DV := [.fl (.string x.fr), .fl (.string x.to), .fl (.int .i64 x.lo), .fl (.int .i64 x.hi)]
structure Nwk where
  pts : List Pnt
  lks : List Lnk
  deriving Inhabited
def eNwk (x : Nwk) : List DV := [.sl 3 (List.map ePnt x.pts), .sl 4 (List.map eLnk x.lks)]
structure Sys where
  name : ByteArray
  closed : Bool
  most : Int
  deriving Inhabited
def eSys (x : Sys) : List DV := [.fl (.string x.name), .fl (.bool x.closed), .fl (.int .i64 x.most)]
structure Tpg where
  net : Nwk
  syss : List Sys
  deriving Inhabited
def eTpg (x : Tpg) : List DV := [.sl 3 (List.map ePnt x.net.pts), .sl 4 (List.map eLnk x.net.lks), .sl 3 (List.map eSys x.syss)]
theorem ti3 : TI Try.prog 3 (.int .i64 0) 1 8 := ti_of (by kernel_rfl)
theorem ti4 : TI Try.prog 4 (.bool false) 1 1 := ti_of (by kernel_rfl)
theorem ti9 : TI Try.prog 9 (.string ⟨#[]⟩) 1 16 := ti_of (by kernel_rfl)
theorem ti22 : TI Try.prog 22 (.slice none 0 0) 1 24 := ti_of (by kernel_rfl)
theorem ti23 : TI Try.prog 23 (.slice none 0 0) 1 24 := ti_of (by kernel_rfl)
theorem ti25 : TI Try.prog 25 (.agg #[.slice none 0 0, .slice none 0 0]) 2 48 := ti_of (by kernel_rfl)
theorem ti26 : TI Try.prog 26 (.slice none 0 0) 1 24 := ti_of (by kernel_rfl)
theorem ti28 : TI Try.prog 28 (.agg #[.slice none 0 0, .slice none 0 0, .slice none 0 0]) 3 72 := ti_of (by kernel_rfl)
theorem ti35 : TI Try.prog 35 (.agg #[.string ⟨#[]⟩, .int .i64 0, .string ⟨#[]⟩]) 3 40 := ti_of (by kernel_rfl)
theorem ti40 : TI Try.prog 40 (.agg #[.string ⟨#[]⟩, .bool false, .int .i64 0]) 3 32 := ti_of (by kernel_rfl)
theorem ti68 : TI Try.prog 68 (.agg #[.string ⟨#[]⟩, .string ⟨#[]⟩, .int .i64 0, .int .i64 0]) 4 48 := ti_of (by kernel_rfl)
theorem ti69 : TI Try.prog 69 (.agg #[.string ⟨#[]⟩, .string ⟨#[]⟩]) 2 32 := ti_of (by kernel_rfl)
theorem nm5 : (Try.f5.name == "runtime.NumGoroutine") = false := by kernel_rfl
theorem nm6 : (Try.f6.name == "runtime.NumGoroutine") = false := by kernel_rfl
theorem nm8 : (Try.f8.name == "runtime.NumGoroutine") = false := by kernel_rfl
theorem nm9 : (Try.f9.name == "runtime.NumGoroutine") = false := by kernel_rfl
theorem nm10 : (Try.f10.name == "runtime.NumGoroutine") = false := by kernel_rfl
theorem nm11 : (Try.f11.name == "runtime.NumGoroutine") = false := by kernel_rfl
theorem nm12 : (Try.f12.name == "runtime.NumGoroutine") = false := by kernel_rfl
theorem nm13 : (Try.f13.name == "runtime.NumGoroutine") = false := by kernel_rfl
theorem nm14 : (Try.f14.name == "runtime.NumGoroutine") = false := by kernel_rfl
theorem nm25 : (Try.f25.name == "runtime.NumGoroutine") = false := by kernel_rfl
theorem nm26 : (Try.f26.name == "runtime.NumGoroutine") = false := by kernel_rfl
theorem nm27 : (Try.f27.name == "runtime.NumGoroutine") = false := by kernel_rfl
theorem nm28 : (Try.f28.name == "runtime.NumGoroutine") = false := by kernel_rfl
theorem nm37 : (Try.f37.name == "runtime.NumGoroutine") = false := by kernel_rfl
theorem nm38 : (Try.f38.name == "runtime.NumGoroutine") = false := by kernel_rfl
theorem nm39 : (Try.f39.name == "runtime.NumGoroutine") = false := by kernel_rfl
theorem nm40 : (Try.f40.name == "runtime.NumGoroutine") = false := by kernel_rfl
end Go.Proofs.Ytjbhikldmaljaaa.Wk
