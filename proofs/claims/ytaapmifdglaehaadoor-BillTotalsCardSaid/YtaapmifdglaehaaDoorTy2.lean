/- More types of the program, and data of them. No condition. -/
import Derived.Test.YtaapmifdglaehaaDoorTy
set_option linter.unusedSimpArgs false
set_option linter.unusedVariables false
namespace Go.Proofs.YtaapmifdglaehaaDoor.Wk
open Go Go.RowKit Go.Proofs.YtaapmifdglaehaaDoor.Av
structure Iv where
  fr : Int
  to : Int
  deriving Inhabited
def eIv (x : Iv) : List DV := [.fl (.int .i64 x.fr), .fl (.int .i64 x.to)]
structure Ow where
  tag : ByteArray
  plate : ByteArray
  time : Iv
  deriving Inhabited
def eOw (x : Ow) : List DV := [.fl (.string x.tag), .fl (.string x.plate), .fl (.int .i64 x.time.fr), .fl (.int .i64 x.time.to)]
structure Rf where
  below : Int
  cents : Int
  tries : Int
  wait : Int
  deriving Inhabited
def eRf (x : Rf) : List DV := [.fl (.int .i64 x.below), .fl (.int .i64 x.cents), .fl (.int .i64 x.tries), .fl (.int .i64 x.wait)]
structure Ac where
  name : ByteArray
  agency : ByteArray
  prepay : Bool
  owned : List Ow
  refill : Rf
  exempt : Bool
  deriving Inhabited
def eAc (x : Ac) : List DV := [.fl (.string x.name), .fl (.string x.agency), .fl (.bool x.prepay), .sl 4 (List.map eOw x.owned), .fl (.int .i64 x.refill.below), .fl (.int .i64 x.refill.cents), .fl (.int .i64 x.refill.tries), .fl (.int .i64 x.refill.wait), .fl (.bool x.exempt)]
structure Lin where
  f0 : ByteArray
  f1 : Int
  deriving Inhabited
def eLin (x : Lin) : List DV := [.fl (.string x.f0), .fl (.int .i64 x.f1)]
structure Chg where
  key : ByteArray
  veh : ByteArray
  sys : ByteArray
  cls : Int
  time : Int
  lines : List Lin
  cents : Int
  deriving Inhabited
def eChg (x : Chg) : List DV := [.fl (.string x.key), .fl (.string x.veh), .fl (.string x.sys), .fl (.int .i64 x.cls), .fl (.int .i64 x.time), .sl 2 (List.map eLin x.lines), .fl (.int .i64 x.cents)]
structure Bil where
  acc : List Ac
  caps : List Ca
  chs : List Chg
  deriving Inhabited
def eBil (x : Bil) : List DV := [.sl 9 (List.map eAc x.acc), .sl 4 (List.map eCa x.caps), .sl 7 (List.map eChg x.chs)]
structure Cfg where
  c0 : Value
  c1 : Value
  c2 : Value
  c3 : Value
  c4 : Value
  c5 : Value
  c6 : Value
  c7 : Value
  c8 : Value
  c9 : Value
  c10 : Value
  c11 : Value
  c12 : Value
  c13 : Value
  c14 : List Ca
  c15 : Value
  c16 : Value
  c17 : List Ac
  c18 : Value
  c19 : Value
  c20 : Value
  c21 : Value
  c22 : Value
  c23 : Value
  c24 : Value
  deriving Inhabited
def eCfg (x : Cfg) : List DV := [.fl x.c0, .fl x.c1, .fl x.c2, .fl x.c3, .fl x.c4, .fl x.c5, .fl x.c6, .fl x.c7, .fl x.c8, .fl x.c9, .fl x.c10, .fl x.c11, .fl x.c12, .fl x.c13, .sl 4 (List.map eCa x.c14), .fl x.c15, .fl x.c16, .sl 9 (List.map eAc x.c17), .fl x.c18, .fl x.c19, .fl x.c20, .fl x.c21, .fl x.c22, .fl x.c23, .fl x.c24]
theorem ti22 : TI Tryd.prog 22 (.slice none 0 0) 1 24 := ti_of (by kernel_rfl)
theorem ti23 : TI Tryd.prog 23 (.slice none 0 0) 1 24 := ti_of (by kernel_rfl)
theorem ti24 : TI Tryd.prog 24 (.slice none 0 0) 1 24 := ti_of (by kernel_rfl)
theorem ti26 : TI Tryd.prog 26 (.agg #[.slice none 0 0, .slice none 0 0, .slice none 0 0]) 3 72 := ti_of (by kernel_rfl)
theorem ti28 : TI Tryd.prog 28 (.agg #[.int .i64 0, .int .i64 0]) 2 16 := ti_of (by kernel_rfl)
theorem ti31 : TI Tryd.prog 31 (.int .i64 0) 1 8 := ti_of (by kernel_rfl)
theorem ti45 : TI Tryd.prog 45 (.slice none 0 0) 1 24 := ti_of (by kernel_rfl)
theorem ti56 : TI Tryd.prog 56 (.agg #[.slice none 0 0, .slice none 0 0, .slice none 0 0, .slice none 0 0, .slice none 0 0, .slice none 0 0, .int .i64 0, .int .i64 0, .slice none 0 0, .int .i64 0, .slice none 0 0, .slice none 0 0, .slice none 0 0, .slice none 0 0, .slice none 0 0, .slice none 0 0, .slice none 0 0, .slice none 0 0, .slice none 0 0, .slice none 0 0, .slice none 0 0, .slice none 0 0, .int .i64 0, .slice none 0 0, .string ⟨#[]⟩]) 25 528 := ti_of (by kernel_rfl)
theorem ti63 : TI Tryd.prog 63 (.slice none 0 0) 1 24 := ti_of (by kernel_rfl)
theorem ti65 : TI Tryd.prog 65 (.agg #[.int .i64 0, .int .i64 0, .int .i64 0, .int .i64 0]) 4 32 := ti_of (by kernel_rfl)
theorem ti67 : TI Tryd.prog 67 (.agg #[.string ⟨#[]⟩, .string ⟨#[]⟩, .bool false, .slice none 0 0, .int .i64 0, .int .i64 0, .int .i64 0, .int .i64 0, .bool false]) 9 104 := ti_of (by kernel_rfl)
theorem ti69 : TI Tryd.prog 69 (.agg #[.string ⟨#[]⟩, .string ⟨#[]⟩, .int .i64 0, .int .i64 0]) 4 48 := ti_of (by kernel_rfl)
theorem ti72 : TI Tryd.prog 72 (.slice none 0 0) 1 24 := ti_of (by kernel_rfl)
theorem ti74 : TI Tryd.prog 74 (.agg #[.string ⟨#[]⟩, .string ⟨#[]⟩, .string ⟨#[]⟩, .int .i64 0, .int .i64 0, .slice none 0 0, .int .i64 0]) 7 96 := ti_of (by kernel_rfl)
theorem ti78 : TI Tryd.prog 78 (.agg #[.string ⟨#[]⟩, .int .i64 0]) 2 24 := ti_of (by kernel_rfl)
theorem ti94 : TI Tryd.prog 94 (.slice none 0 0) 1 24 := ti_of (by kernel_rfl)
theorem nm53 : (Tryd.f53.name == "runtime.NumGoroutine") = false := by kernel_rfl
theorem nm54 : (Tryd.f54.name == "runtime.NumGoroutine") = false := by kernel_rfl
theorem nm55 : (Tryd.f55.name == "runtime.NumGoroutine") = false := by kernel_rfl
theorem nm56 : (Tryd.f56.name == "runtime.NumGoroutine") = false := by kernel_rfl
theorem nm57 : (Tryd.f57.name == "runtime.NumGoroutine") = false := by kernel_rfl
theorem nm58 : (Tryd.f58.name == "runtime.NumGoroutine") = false := by kernel_rfl
theorem nm59 : (Tryd.f59.name == "runtime.NumGoroutine") = false := by kernel_rfl
theorem nm60 : (Tryd.f60.name == "runtime.NumGoroutine") = false := by kernel_rfl
theorem nm61 : (Tryd.f61.name == "runtime.NumGoroutine") = false := by kernel_rfl
theorem nm62 : (Tryd.f62.name == "runtime.NumGoroutine") = false := by kernel_rfl
theorem nm63 : (Tryd.f63.name == "runtime.NumGoroutine") = false := by kernel_rfl
theorem nm64 : (Tryd.f64.name == "runtime.NumGoroutine") = false := by kernel_rfl
theorem nm65 : (Tryd.f65.name == "runtime.NumGoroutine") = false := by kernel_rfl
theorem nm66 : (Tryd.f66.name == "runtime.NumGoroutine") = false := by kernel_rfl
theorem nm67 : (Tryd.f67.name == "runtime.NumGoroutine") = false := by kernel_rfl
theorem nm68 : (Tryd.f68.name == "runtime.NumGoroutine") = false := by kernel_rfl
theorem nm69 : (Tryd.f69.name == "runtime.NumGoroutine") = false := by kernel_rfl
theorem nm70 : (Tryd.f70.name == "runtime.NumGoroutine") = false := by kernel_rfl
theorem nm71 : (Tryd.f71.name == "runtime.NumGoroutine") = false := by kernel_rfl
theorem nm72 : (Tryd.f72.name == "runtime.NumGoroutine") = false := by kernel_rfl
theorem nm73 : (Tryd.f73.name == "runtime.NumGoroutine") = false := by kernel_rfl
theorem nm74 : (Tryd.f74.name == "runtime.NumGoroutine") = false := by kernel_rfl

end Go.Proofs.YtaapmifdglaehaaDoor.Wk
