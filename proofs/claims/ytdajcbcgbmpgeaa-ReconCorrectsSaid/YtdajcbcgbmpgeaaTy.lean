/- The types of the program, and data of them. No condition. -/
import Derived.Test.YtdajcbcgbmpgeaaProg
import Derived.Test.YtdajcbcgbmpgeaaAvF
set_option linter.unusedSimpArgs false
set_option linter.unusedVariables false
namespace Go.Proofs.Ytdajcbcgbmpgeaa.Wk
open Go Go.RowKit Go.Proofs.Ytdajcbcgbmpgeaa.Av
structure Df where
  key : ByteArray
  ours : Int
  theirs : Int
  deriving Inhabited
def eDf (x : Df) : List DV := [.fl (.string x.key), .fl (.int .i64 x.ours), .fl (.int .i64 x.theirs)]
structure Rco where
  kind : Int
  key : ByteArray
  time : Int
  cents : Int
  why : Int
  deriving Inhabited
def eRco (x : Rco) : List DV := [.fl (.int .i64 x.kind), .fl (.string x.key), .fl (.int .i64 x.time), .fl (.int .i64 x.cents), .fl (.int .i64 x.why)]
theorem ti3 : TI Try.prog 3 (.int .i64 0) 1 8 := ti_of (by kernel_rfl)
theorem ti4 : TI Try.prog 4 (.bool false) 1 1 := ti_of (by kernel_rfl)
theorem ti9 : TI Try.prog 9 (.string ⟨#[]⟩) 1 16 := ti_of (by kernel_rfl)
theorem ti22 : TI Try.prog 22 (.slice none 0 0) 1 24 := ti_of (by kernel_rfl)
theorem ti25 : TI Try.prog 25 (.slice none 0 0) 1 24 := ti_of (by kernel_rfl)
theorem ti29 : TI Try.prog 29 (.agg #[.int .i64 0, .string ⟨#[]⟩, .int .i64 0, .int .i64 0, .int .i64 0]) 5 48 := ti_of (by kernel_rfl)
theorem ti36 : TI Try.prog 36 (.agg #[.string ⟨#[]⟩, .int .i64 0, .int .i64 0]) 3 32 := ti_of (by kernel_rfl)
theorem nm3 : (Try.f3.name == "runtime.NumGoroutine") = false := by kernel_rfl
theorem nm4 : (Try.f4.name == "runtime.NumGoroutine") = false := by kernel_rfl
theorem nm5 : (Try.f5.name == "runtime.NumGoroutine") = false := by kernel_rfl
theorem nm6 : (Try.f6.name == "runtime.NumGoroutine") = false := by kernel_rfl
theorem nm7 : (Try.f7.name == "runtime.NumGoroutine") = false := by kernel_rfl

end Go.Proofs.Ytdajcbcgbmpgeaa.Wk
