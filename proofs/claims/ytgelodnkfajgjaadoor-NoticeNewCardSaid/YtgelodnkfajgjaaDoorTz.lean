/- More types. No condition. -/
import Derived.Test.YtgelodnkfajgjaaDoorTy
set_option linter.unusedSimpArgs false
set_option linter.unusedVariables false
namespace Go.Proofs.YtgelodnkfajgjaaDoor.Wk
open Go Go.RowKit Go.Proofs.YtgelodnkfajgjaaDoor.Av
structure XAppeal where
  statex : Int
  groundx : Int
  dayx : Int
  deriving Inhabited
def eXAppeal (x : XAppeal) : List DV := [.fl (.int .i64 x.statex), .fl (.int .i64 x.groundx), .fl (.int .i64 x.dayx)]
structure XCase where
  idx : ByteArray
  platex : ByteArray
  keyx : ByteArray
  begunx : Int
  sincex : Int
  stagex : Int
  owedx : Int
  paidx : Int
  pausedx : Int
  appealx : XAppeal
  deriving Inhabited
def eXCase (x : XCase) : List DV := [.fl (.string x.idx), .fl (.string x.platex), .fl (.string x.keyx), .fl (.int .i64 x.begunx), .fl (.int .i64 x.sincex), .fl (.int .i64 x.stagex), .fl (.int .i64 x.owedx), .fl (.int .i64 x.paidx), .fl (.int .i64 x.pausedx), .fl (.int .i64 x.appealx.statex), .fl (.int .i64 x.appealx.groundx), .fl (.int .i64 x.appealx.dayx)]
structure XAsk where
  idx : ByteArray
  platex : ByteArray
  keyx : ByteArray
  centsx : Int
  dayx : Int
  deriving Inhabited
def eXAsk (x : XAsk) : List DV := [.fl (.string x.idx), .fl (.string x.platex), .fl (.string x.keyx), .fl (.int .i64 x.centsx), .fl (.int .i64 x.dayx)]
theorem ti31 : TI Tryd.prog 31 (.agg #[.string ⟨#[]⟩, .string ⟨#[]⟩, .string ⟨#[]⟩, .int .i64 0, .int .i64 0]) 5 64 := ti_of (by kernel_rfl)
theorem ti33 : TI Tryd.prog 33 (.agg #[.int .i64 0, .int .i64 0, .int .i64 0]) 3 24 := ti_of (by kernel_rfl)
theorem ti35 : TI Tryd.prog 35 (.agg #[.string ⟨#[]⟩, .string ⟨#[]⟩, .string ⟨#[]⟩, .int .i64 0, .int .i64 0, .int .i64 0, .int .i64 0, .int .i64 0, .int .i64 0, .int .i64 0, .int .i64 0, .int .i64 0]) 12 120 := ti_of (by kernel_rfl)
theorem ti43 : TI Tryd.prog 43 (.slice none 0 0) 1 24 := ti_of (by kernel_rfl)
end Go.Proofs.YtgelodnkfajgjaaDoor.Wk
