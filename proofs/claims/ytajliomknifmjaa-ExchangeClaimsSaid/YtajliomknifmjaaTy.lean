/- The types of the program, and data of them. No condition. -/
import Derived.Test.YtajliomknifmjaaProg
import Derived.Test.YtajliomknifmjaaAvF
set_option linter.unusedSimpArgs false
set_option linter.unusedVariables false
namespace Go.Proofs.Ytajliomknifmjaa.Wk
open Go Go.RowKit Go.Proofs.Ytajliomknifmjaa.Av
structure Rec where
  kind : Int
  key : ByteArray
  time : Int
  cents : Int
  why : Int
  deriving Inhabited
def eRec (x : Rec) : List DV := [.fl (.int .i64 x.kind), .fl (.string x.key), .fl (.int .i64 x.time), .fl (.int .i64 x.cents), .fl (.int .i64 x.why)]
structure Ptn where
  name : ByteArray
  out : Int
  inn : Int
  wait : Value
  ours : List Rec
  theirs : List Rec
  deriving Inhabited
def ePt (x : Ptn) : List DV := [.fl (.string x.name), .fl (.int .i64 x.out), .fl (.int .i64 x.inn), .fl x.wait, .sl 5 (List.map eRec x.ours), .sl 5 (List.map eRec x.theirs)]
theorem ti3 : TI Try.prog 3 (.int .i64 0) 1 8 := ti_of (by kernel_rfl)
theorem ti9 : TI Try.prog 9 (.string ⟨#[]⟩) 1 16 := ti_of (by kernel_rfl)
theorem ti23 : TI Try.prog 23 (.slice none 0 0) 1 24 := ti_of (by kernel_rfl)
theorem ti25 : TI Try.prog 25 (.agg #[.string ⟨#[]⟩, .int .i64 0, .int .i64 0, .slice none 0 0, .slice none 0 0, .slice none 0 0]) 6 104 := ti_of (by kernel_rfl)
theorem ti28 : TI Try.prog 28 (.agg #[.int .i64 0, .string ⟨#[]⟩, .int .i64 0, .int .i64 0, .int .i64 0]) 5 48 := ti_of (by kernel_rfl)
theorem nm6 : (Try.f6.name == "runtime.NumGoroutine") = false := by kernel_rfl
theorem nm7 : (Try.f7.name == "runtime.NumGoroutine") = false := by kernel_rfl
theorem nm8 : (Try.f8.name == "runtime.NumGoroutine") = false := by kernel_rfl
theorem nm21 : (Try.f21.name == "runtime.NumGoroutine") = false := by kernel_rfl
theorem nm22 : (Try.f22.name == "runtime.NumGoroutine") = false := by kernel_rfl
theorem nm33 : (Try.f33.name == "runtime.NumGoroutine") = false := by kernel_rfl
theorem nm34 : (Try.f34.name == "runtime.NumGoroutine") = false := by kernel_rfl
theorem nm42 : (Try.f42.name == "runtime.NumGoroutine") = false := by kernel_rfl
theorem nm43 : (Try.f43.name == "runtime.NumGoroutine") = false := by kernel_rfl
theorem nm45 : (Try.f45.name == "runtime.NumGoroutine") = false := by kernel_rfl
end Go.Proofs.Ytajliomknifmjaa.Wk
