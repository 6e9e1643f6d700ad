/- More types. No condition. -/
import Derived.Test.YtgelodnkfajgjaaGreatDoorTy
set_option linter.unusedSimpArgs false
set_option linter.unusedVariables false
namespace Go.Proofs.YtgelodnkfajgjaaGreatDoor.Wk
open Go Go.RowKit Go.Proofs.YtgelodnkfajgjaaGreatDoor.Av
structure Iv where
  fr : Int
  to : Int
  deriving Inhabited
def eIv (x : Iv) : List DV := [.fl (.int .i64 x.fr), .fl (.int .i64 x.to)]
structure Of where
  fr : Int
  dl : Int
  deriving Inhabited
def eOf (x : Of) : List DV := [.fl (.int .i64 x.fr), .fl (.int .i64 x.dl)]
structure Dc where
  name : ByteArray
  point : ByteArray
  kind : Int
  lane : Int
  offs : List Of
  down : List Iv
  deriving Inhabited
def eDc (x : Dc) : List DV := [.fl (.string x.name), .fl (.string x.point), .fl (.int .i64 x.kind), .fl (.int .i64 x.lane), .sl 2 (List.map eOf x.offs), .sl 2 (List.map eIv x.down)]
structure Den where
  dev : ByteArray
  seq : Int
  time : Int
  tag : ByteArray
  plate : ByteArray
  axl : Int
  score : Int
  deriving Inhabited
def eDen (x : Den) : List DV := [.fl (.string x.dev), .fl (.int .i64 x.seq), .fl (.int .i64 x.time), .fl (.string x.tag), .fl (.string x.plate), .fl (.int .i64 x.axl), .fl (.int .i64 x.score)]
structure Sen where
  d : Den
  time : Int
  point : ByteArray
  lane : Int
  kind : Int
  deriving Inhabited
def eSen (x : Sen) : List DV := [.fl (.string x.d.dev), .fl (.int .i64 x.d.seq), .fl (.int .i64 x.d.time), .fl (.string x.d.tag), .fl (.string x.d.plate), .fl (.int .i64 x.d.axl), .fl (.int .i64 x.d.score), .fl (.int .i64 x.time), .fl (.string x.point), .fl (.int .i64 x.lane), .fl (.int .i64 x.kind)]
structure Can where
  d : Den
  dev : Dc
  known : Bool
  deriving Inhabited
def eCan (x : Can) : List DV := [.fl (.string x.d.dev), .fl (.int .i64 x.d.seq), .fl (.int .i64 x.d.time), .fl (.string x.d.tag), .fl (.string x.d.plate), .fl (.int .i64 x.d.axl), .fl (.int .i64 x.d.score), .fl (.string x.dev.name), .fl (.string x.dev.point), .fl (.int .i64 x.dev.kind), .fl (.int .i64 x.dev.lane), .sl 2 (List.map eOf x.dev.offs), .sl 2 (List.map eIv x.dev.down), .fl (.bool x.known)]
theorem ti40 : TI Tryz.prog 40 (.agg #[.string ⟨#[]⟩, .int .i64 0, .int .i64 0, .string ⟨#[]⟩, .string ⟨#[]⟩, .int .i64 0, .int .i64 0]) 7 80 := ti_of (by kernel_rfl)
theorem ti44 : TI Tryz.prog 44 (.agg #[.string ⟨#[]⟩, .int .i64 0, .int .i64 0, .string ⟨#[]⟩, .string ⟨#[]⟩, .int .i64 0, .int .i64 0, .int .i64 0, .string ⟨#[]⟩, .int .i64 0, .int .i64 0]) 11 120 := ti_of (by kernel_rfl)
theorem ti74 : TI Tryz.prog 74 (.slice none 0 0) 1 24 := ti_of (by kernel_rfl)
theorem ti75 : TI Tryz.prog 75 (.slice none 0 0) 1 24 := ti_of (by kernel_rfl)
theorem ti77 : TI Tryz.prog 77 (.agg #[.string ⟨#[]⟩, .string ⟨#[]⟩, .int .i64 0, .int .i64 0, .slice none 0 0, .slice none 0 0]) 6 96 := ti_of (by kernel_rfl)
theorem ti91 : TI Tryz.prog 91 (.agg #[.string ⟨#[]⟩, .int .i64 0, .int .i64 0, .string ⟨#[]⟩, .string ⟨#[]⟩, .int .i64 0, .int .i64 0, .string ⟨#[]⟩, .string ⟨#[]⟩, .int .i64 0, .int .i64 0, .slice none 0 0, .slice none 0 0, .bool false]) 14 184 := ti_of (by kernel_rfl)
theorem ti134 : TI Tryz.prog 134 (.agg #[.int .i64 0, .int .i64 0]) 2 16 := ti_of (by kernel_rfl)
theorem ti137 : TI Tryz.prog 137 (.agg #[.int .i64 0, .int .i64 0]) 2 16 := ti_of (by kernel_rfl)
end Go.Proofs.YtgelodnkfajgjaaGreatDoor.Wk
