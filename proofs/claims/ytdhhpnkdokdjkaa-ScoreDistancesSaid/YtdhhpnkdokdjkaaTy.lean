/- The types of the program, and data of them. No condition. -/
import Derived.Test.YtdhhpnkdokdjkaaProg
import Derived.Test.YtdhhpnkdokdjkaaAvF
set_option linter.unusedSimpArgs false
set_option linter.unusedVariables false
namespace Go.Proofs.Ytdhhpnkdokdjkaa.Wk
open Go Go.RowKit Go.Proofs.Ytdhhpnkdokdjkaa.Av
structure De where
  dev : ByteArray
  seq : Int
  time : Int
  tag : ByteArray
  plate : ByteArray
  axles : Int
  score : Int
  deriving Inhabited
def eDe (x : De) : List DV := [.fl (.string x.dev), .fl (.int .i64 x.seq), .fl (.int .i64 x.time), .fl (.string x.tag), .fl (.string x.plate), .fl (.int .i64 x.axles), .fl (.int .i64 x.score)]
structure Sn where
  d : De
  time : Int
  point : ByteArray
  lane : Int
  kind : Int
  deriving Inhabited
def eSn (x : Sn) : List DV := [.fl (.string x.d.dev), .fl (.int .i64 x.d.seq), .fl (.int .i64 x.d.time), .fl (.string x.d.tag), .fl (.string x.d.plate), .fl (.int .i64 x.d.axles), .fl (.int .i64 x.d.score), .fl (.int .i64 x.time), .fl (.string x.point), .fl (.int .i64 x.lane), .fl (.int .i64 x.kind)]
structure Pg where
  id : ByteArray
  point : ByteArray
  time : Int
  tag : ByteArray
  plate : ByteArray
  cls : Int
  score : Int
  srcs : Value
  deriving Inhabited
def ePg (x : Pg) : List DV := [.fl (.string x.id), .fl (.string x.point), .fl (.int .i64 x.time), .fl (.string x.tag), .fl (.string x.plate), .fl (.int .i64 x.cls), .fl (.int .i64 x.score), .fl x.srcs]
theorem ti3 : TI Try.prog 3 (.int .i64 0) 1 8 := ti_of (by kernel_rfl)
theorem ti4 : TI Try.prog 4 (.bool false) 1 1 := ti_of (by kernel_rfl)
theorem ti9 : TI Try.prog 9 (.string ⟨#[]⟩) 1 16 := ti_of (by kernel_rfl)
theorem ti23 : TI Try.prog 23 (.agg #[.string ⟨#[]⟩, .int .i64 0, .int .i64 0, .string ⟨#[]⟩, .string ⟨#[]⟩, .int .i64 0, .int .i64 0]) 7 80 := ti_of (by kernel_rfl)
theorem ti25 : TI Try.prog 25 (.agg #[.string ⟨#[]⟩, .int .i64 0, .int .i64 0, .string ⟨#[]⟩, .string ⟨#[]⟩, .int .i64 0, .int .i64 0, .int .i64 0, .string ⟨#[]⟩, .int .i64 0, .int .i64 0]) 11 120 := ti_of (by kernel_rfl)
theorem ti26 : TI Try.prog 26 (.slice none 0 0) 1 24 := ti_of (by kernel_rfl)
theorem ti28 : TI Try.prog 28 (.agg #[.string ⟨#[]⟩, .string ⟨#[]⟩, .int .i64 0, .string ⟨#[]⟩, .string ⟨#[]⟩, .int .i64 0, .int .i64 0, .slice none 0 0]) 8 112 := ti_of (by kernel_rfl)
theorem nm3 : (Try.f3.name == "runtime.NumGoroutine") = false := by kernel_rfl
theorem nm4 : (Try.f4.name == "runtime.NumGoroutine") = false := by kernel_rfl
theorem nm5 : (Try.f5.name == "runtime.NumGoroutine") = false := by kernel_rfl
theorem nm6 : (Try.f6.name == "runtime.NumGoroutine") = false := by kernel_rfl
theorem nm7 : (Try.f7.name == "runtime.NumGoroutine") = false := by kernel_rfl
theorem nm8 : (Try.f8.name == "runtime.NumGoroutine") = false := by kernel_rfl
theorem nm9 : (Try.f9.name == "runtime.NumGoroutine") = false := by kernel_rfl
theorem nm10 : (Try.f10.name == "runtime.NumGoroutine") = false := by kernel_rfl
theorem nm11 : (Try.f11.name == "runtime.NumGoroutine") = false := by kernel_rfl
theorem nm12 : (Try.f12.name == "runtime.NumGoroutine") = false := by kernel_rfl
theorem nm13 : (Try.f13.name == "runtime.NumGoroutine") = false := by kernel_rfl
theorem nm17 : (Try.f17.name == "runtime.NumGoroutine") = false := by kernel_rfl
theorem nm18 : (Try.f18.name == "runtime.NumGoroutine") = false := by kernel_rfl
theorem nm19 : (Try.f19.name == "runtime.NumGoroutine") = false := by kernel_rfl
theorem nm20 : (Try.f20.name == "runtime.NumGoroutine") = false := by kernel_rfl
end Go.Proofs.Ytdhhpnkdokdjkaa.Wk
