/- More types of the program, and data of them. No condition. -/
import Derived.Test.YtjgfdheodnmddaaDoorTy
set_option linter.unusedSimpArgs false
set_option linter.unusedVariables false
namespace Go.Proofs.YtjgfdheodnmddaaDoor.Wk
open Go Go.RowKit Go.Proofs.YtjgfdheodnmddaaDoor.Av
structure Iv where
  fr : Int
  to : Int
  deriving Inhabited
def eIv (x : Iv) : List DV := [.fl (.int .i64 x.fr), .fl (.int .i64 x.to)]
structure Ow where
  tag : ByteArray
  plate : ByteArray
  time : Iv
  deriving Inhabited
def eOw (x : Ow) : List DV := [.fl (.string x.tag), .fl (.string x.plate), .fl (.int .i64 x.time.fr), .fl (.int .i64 x.time.to)]
structure Rf where
  below : Int
  cents : Int
  tries : Int
  wait : Int
  deriving Inhabited
def eRf (x : Rf) : List DV := [.fl (.int .i64 x.below), .fl (.int .i64 x.cents), .fl (.int .i64 x.tries), .fl (.int .i64 x.wait)]
structure Ac where
  name : ByteArray
  agency : ByteArray
  prepay : Bool
  owned : List Ow
  refill : Rf
  exempt : Bool
  deriving Inhabited
def eAc (x : Ac) : List DV := [.fl (.string x.name), .fl (.string x.agency), .fl (.bool x.prepay), .sl 4 (List.map eOw x.owned), .fl (.int .i64 x.refill.below), .fl (.int .i64 x.refill.cents), .fl (.int .i64 x.refill.tries), .fl (.int .i64 x.refill.wait), .fl (.bool x.exempt)]
structure Lin where
  f0 : ByteArray
  f1 : Int
  deriving Inhabited
def eLin (x : Lin) : List DV := [.fl (.string x.f0), .fl (.int .i64 x.f1)]
structure Chg where
  key : ByteArray
  veh : ByteArray
  sys : ByteArray
  cls : Int
  time : Int
  lines : List Lin
  cents : Int
  deriving Inhabited
def eChg (x : Chg) : List DV := [.fl (.string x.key), .fl (.string x.veh), .fl (.string x.sys), .fl (.int .i64 x.cls), .fl (.int .i64 x.time), .sl 2 (List.map eLin x.lines), .fl (.int .i64 x.cents)]
structure Bil where
  acc : List Ac
  caps : List Ca
  chs : List Chg
  deriving Inhabited
def eBil (x : Bil) : List DV := [.sl 9 (List.map eAc x.acc), .sl 4 (List.map eCa x.caps), .sl 7 (List.map eChg x.chs)]
structure Cfg where
  c0 : Value
  c1 : Value
  c2 : Value
  c3 : Value
  c4 : Value
  c5 : Value
  c6 : Value
  c7 : Value
  c8 : Value
  c9 : Value
  c10 : Value
  c11 : Value
  c12 : Value
  c13 : Value
  c14 : List Ca
  c15 : Value
  c16 : Value
  c17 : List Ac
  c18 : Value
  c19 : Value
  c20 : Value
  c21 : Value
  c22 : Value
  c23 : Value
  c24 : Value
  deriving Inhabited
def eCfg (x : Cfg) : List DV := [.fl x.c0, .fl x.c1, .fl x.c2, .fl x.c3, .fl x.c4, .fl x.c5, .fl x.c6, .fl x.c7, .fl x.c8, .fl x.c9, .fl x.c10, .fl x.c11, .fl x.c12, .fl x.c13, .sl 4 (List.map eCa x.c14), .fl x.c15, .fl x.c16, .sl 9 (List.map eAc x.c17), .fl x.c18, .fl x.c19, .fl x.c20, .fl x.c21, .fl x.c22, .fl x.c23, .fl x.c24]
theorem ti31 : TI Tryd.prog 31 (.slice none 0 0) 1 24 := ti_of (by kernel_rfl)
theorem ti32 : TI Tryd.prog 32 (.slice none 0 0) 1 24 := ti_of (by kernel_rfl)
theorem ti33 : TI Tryd.prog 33 (.slice none 0 0) 1 24 := ti_of (by kernel_rfl)
theorem ti35 : TI Tryd.prog 35 (.agg #[.slice none 0 0, .slice none 0 0, .slice none 0 0]) 3 72 := ti_of (by kernel_rfl)
theorem ti39 : TI Tryd.prog 39 (.slice none 0 0) 1 24 := ti_of (by kernel_rfl)
theorem ti41 : TI Tryd.prog 41 (.agg #[.string ⟨#[]⟩, .string ⟨#[]⟩, .string ⟨#[]⟩, .int .i64 0, .int .i64 0, .slice none 0 0, .int .i64 0]) 7 96 := ti_of (by kernel_rfl)
theorem ti42 : TI Tryd.prog 42 (.slice none 0 0) 1 24 := ti_of (by kernel_rfl)
theorem ti44 : TI Tryd.prog 44 (.agg #[.int .i64 0, .int .i64 0, .int .i64 0, .int .i64 0]) 4 32 := ti_of (by kernel_rfl)
theorem ti46 : TI Tryd.prog 46 (.agg #[.string ⟨#[]⟩, .string ⟨#[]⟩, .bool false, .slice none 0 0, .int .i64 0, .int .i64 0, .int .i64 0, .int .i64 0, .bool false]) 9 104 := ti_of (by kernel_rfl)
theorem ti70 : TI Tryd.prog 70 (.agg #[.slice none 0 0, .slice none 0 0, .slice none 0 0, .slice none 0 0, .slice none 0 0, .slice none 0 0, .int .i64 0, .int .i64 0, .slice none 0 0, .int .i64 0, .slice none 0 0, .slice none 0 0, .slice none 0 0, .slice none 0 0, .slice none 0 0, .slice none 0 0, .slice none 0 0, .slice none 0 0, .slice none 0 0, .slice none 0 0, .slice none 0 0, .slice none 0 0, .int .i64 0, .slice none 0 0, .string ⟨#[]⟩]) 25 528 := ti_of (by kernel_rfl)
theorem ti82 : TI Tryd.prog 82 (.agg #[.int .i64 0, .int .i64 0]) 2 16 := ti_of (by kernel_rfl)
theorem ti84 : TI Tryd.prog 84 (.agg #[.string ⟨#[]⟩, .string ⟨#[]⟩, .int .i64 0, .int .i64 0]) 4 48 := ti_of (by kernel_rfl)
theorem ti89 : TI Tryd.prog 89 (.agg #[.string ⟨#[]⟩, .int .i64 0]) 2 24 := ti_of (by kernel_rfl)
theorem ti112 : TI Tryd.prog 112 (.slice none 0 0) 1 24 := ti_of (by kernel_rfl)
theorem nm63 : (Tryd.f63.name == "runtime.NumGoroutine") = false := by kernel_rfl
theorem nm64 : (Tryd.f64.name == "runtime.NumGoroutine") = false := by kernel_rfl

end Go.Proofs.YtjgfdheodnmddaaDoor.Wk
