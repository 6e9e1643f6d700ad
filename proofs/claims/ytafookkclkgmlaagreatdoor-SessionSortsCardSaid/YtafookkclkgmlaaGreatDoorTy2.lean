/- More types. No condition. -/
import Derived.Test.YtafookkclkgmlaaGreatDoorTy
set_option linter.unusedSimpArgs false
set_option linter.unusedVariables false
namespace Go.Proofs.YtafookkclkgmlaaGreatDoor.Wk
open Go Go.RowKit Go.Proofs.YtafookkclkgmlaaGreatDoor.Av
structure Prk where
  kind : Int
  zone : ByteArray
  plate : ByteArray
  time : Int
  till : Int
  deriving Inhabited
def ePrk (x : Prk) : List DV := [.fl (.int .i64 x.kind), .fl (.string x.zone), .fl (.string x.plate), .fl (.int .i64 x.time), .fl (.int .i64 x.till)]
theorem ti23 : TI Tryz.prog 23 (.agg #[.int .i64 0, .string ⟨#[]⟩, .string ⟨#[]⟩, .int .i64 0, .int .i64 0]) 5 56 := ti_of (by kernel_rfl)
theorem ti33 : TI Tryz.prog 33 (.slice none 0 0) 1 24 := ti_of (by kernel_rfl)

end Go.Proofs.YtafookkclkgmlaaGreatDoor.Wk
