/- The types of the program, and data of them. No condition. -/
import Derived.Test.YtgfbgkoifcacdaaDoorProg
import Derived.Test.YtgfbgkoifcacdaaDoorAvF
set_option linter.unusedSimpArgs false
set_option linter.unusedVariables false
namespace Go.Proofs.YtgfbgkoifcacdaaDoor.Wk
open Go Go.RowKit Go.Proofs.YtgfbgkoifcacdaaDoor.Av
structure So where
  dev : ByteArray
  seq : Int
  deriving Inhabited
def eSo (x : So) : List DV := [.fl (.string x.dev), .fl (.int .i64 x.seq)]
structure De where
  dev : ByteArray
  seq : Int
  time : Int
  tag : ByteArray
  plate : ByteArray
  axles : Int
  score : Int
  deriving Inhabited
def eDe (x : De) : List DV := [.fl (.string x.dev), .fl (.int .i64 x.seq), .fl (.int .i64 x.time), .fl (.string x.tag), .fl (.string x.plate), .fl (.int .i64 x.axles), .fl (.int .i64 x.score)]
structure Sn where
  d : De
  time : Int
  point : ByteArray
  lane : Int
  kind : Int
  deriving Inhabited
def eSn (x : Sn) : List DV := [.fl (.string x.d.dev), .fl (.int .i64 x.d.seq), .fl (.int .i64 x.d.time), .fl (.string x.d.tag), .fl (.string x.d.plate), .fl (.int .i64 x.d.axles), .fl (.int .i64 x.d.score), .fl (.int .i64 x.time), .fl (.string x.point), .fl (.int .i64 x.lane), .fl (.int .i64 x.kind)]
structure Rj where
  d : De
  why : Int
  deriving Inhabited
def eRj (x : Rj) : List DV := [.fl (.string x.d.dev), .fl (.int .i64 x.d.seq), .fl (.int .i64 x.d.time), .fl (.string x.d.tag), .fl (.string x.d.plate), .fl (.int .i64 x.d.axles), .fl (.int .i64 x.d.score), .fl (.int .i64 x.why)]
structure Pg where
  id : ByteArray
  point : ByteArray
  time : Int
  tag : ByteArray
  plate : ByteArray
  cls : Int
  score : Int
  srcs : List So
  deriving Inhabited
def ePg (x : Pg) : List DV := [.fl (.string x.id), .fl (.string x.point), .fl (.int .i64 x.time), .fl (.string x.tag), .fl (.string x.plate), .fl (.int .i64 x.cls), .fl (.int .i64 x.score), .sl 2 (List.map eSo x.srcs)]
structure Sp where
  point : ByteArray
  time : Int
  pass : ByteArray
  deriving Inhabited
def eSp (x : Sp) : List DV := [.fl (.string x.point), .fl (.int .i64 x.time), .fl (.string x.pass)]
structure Tp where
  id : ByteArray
  veh : ByteArray
  sys : ByteArray
  cls : Int
  stops : List Sp
  deriving Inhabited
def eTp (x : Tp) : List DV := [.fl (.string x.id), .fl (.string x.veh), .fl (.string x.sys), .fl (.int .i64 x.cls), .sl 3 (List.map eSp x.stops)]
structure Ln where
  text : ByteArray
  cents : Int
  deriving Inhabited
def eLn (x : Ln) : List DV := [.fl (.string x.text), .fl (.int .i64 x.cents)]
structure Cg where
  key : ByteArray
  veh : ByteArray
  sys : ByteArray
  cls : Int
  time : Int
  lines : List Ln
  cents : Int
  deriving Inhabited
def eCg (x : Cg) : List DV := [.fl (.string x.key), .fl (.string x.veh), .fl (.string x.sys), .fl (.int .i64 x.cls), .fl (.int .i64 x.time), .sl 2 (List.map eLn x.lines), .fl (.int .i64 x.cents)]
structure Ec where
  id : ByteArray
  why : Int
  deriving Inhabited
def eEc (x : Ec) : List DV := [.fl (.string x.id), .fl (.int .i64 x.why)]
structure Iv where
  fr : Int
  to : Int
  deriving Inhabited
def eIv (x : Iv) : List DV := [.fl (.int .i64 x.fr), .fl (.int .i64 x.to)]
structure Sy where
  id : ByteArray
  zone : ByteArray
  plate : ByteArray
  time : Iv
  deriving Inhabited
def eSy (x : Sy) : List DV := [.fl (.string x.id), .fl (.string x.zone), .fl (.string x.plate), .fl (.int .i64 x.time.fr), .fl (.int .i64 x.time.to)]
structure Ow where
  tag : ByteArray
  plate : ByteArray
  time : Iv
  deriving Inhabited
def eOw (x : Ow) : List DV := [.fl (.string x.tag), .fl (.string x.plate), .fl (.int .i64 x.time.fr), .fl (.int .i64 x.time.to)]
structure Rf where
  a : Int
  b : Int
  c : Int
  d : Int
  deriving Inhabited
def eRf (x : Rf) : List DV := [.fl (.int .i64 x.a), .fl (.int .i64 x.b), .fl (.int .i64 x.c), .fl (.int .i64 x.d)]
structure Ac where
  name : ByteArray
  agency : ByteArray
  prepay : Bool
  owned : List Ow
  refill : Rf
  exempt : Bool
  deriving Inhabited
def eAc (x : Ac) : List DV := [.fl (.string x.name), .fl (.string x.agency), .fl (.bool x.prepay), .sl 4 (List.map eOw x.owned), .fl (.int .i64 x.refill.a), .fl (.int .i64 x.refill.b), .fl (.int .i64 x.refill.c), .fl (.int .i64 x.refill.d), .fl (.bool x.exempt)]
structure Rs where
  pass : List Pg
  rej : List Rj
  trips : List Tp
  stays : List Sy
  chg : List Cg
  exc : List Ec
  deriving Inhabited
def eRs (x : Rs) : List DV := [.sl 8 (List.map ePg x.pass), .sl 8 (List.map eRj x.rej), .sl 5 (List.map eTp x.trips), .sl 5 (List.map eSy x.stays), .sl 7 (List.map eCg x.chg), .sl 2 (List.map eEc x.exc)]
structure Nw where
  a : Value
  b : Value
  deriving Inhabited
def eNw (x : Nw) : List DV := [.fl x.a, .fl x.b]
structure Tq where
  net : Nw
  sys : Value
  deriving Inhabited
def eTq (x : Tq) : List DV := [.fl x.net.a, .fl x.net.b, .fl x.sys]
structure Sc where
  p : Int
  a : Value
  b : Value
  c : Value
  deriving Inhabited
def eSc (x : Sc) : List DV := [.fl (.int .i64 x.p), .fl x.a, .fl x.b, .fl x.c]
structure Lw where
  a : Value
  b : Value
  c : Int
  deriving Inhabited
def eLw (x : Lw) : List DV := [.fl x.a, .fl x.b, .fl (.int .i64 x.c)]
structure Cf where
  top : Tq
  dev : Value
  cls : Value
  tags : Value
  gap : Int
  weak : Int
  tar : Value
  scale : Sc
  dis : Value
  caps : Value
  zones : Value
  perm : Value
  acc : List Ac
  rel : Value
  hol : Value
  law : Lw
  keep : Value
  ag : ByteArray
  deriving Inhabited
def eCf (x : Cf) : List DV := [.fl x.top.net.a, .fl x.top.net.b, .fl x.top.sys, .fl x.dev, .fl x.cls, .fl x.tags, .fl (.int .i64 x.gap), .fl (.int .i64 x.weak), .fl x.tar, .fl (.int .i64 x.scale.p), .fl x.scale.a, .fl x.scale.b, .fl x.scale.c, .fl x.dis, .fl x.caps, .fl x.zones, .fl x.perm, .sl 9 (List.map eAc x.acc), .fl x.rel, .fl x.hol, .fl x.law.a, .fl x.law.b, .fl (.int .i64 x.law.c), .fl x.keep, .fl (.string x.ag)]
structure Lg where
  e : Value
  deriving Inhabited
def eLg (x : Lg) : List DV := [.fl x.e]
structure Bo where
  led : Lg
  done : List Cg
  deriving Inhabited
def eBo (x : Bo) : List DV := [.fl x.led.e, .sl 7 (List.map eCg x.done)]
structure Sa where
  cfg : Cf
  seen : List Sn
  rej : List Rj
  parked : Value
  closed : Int
  res : Rs
  books : Bo
  cases : Value
  count : Int
  deriving Inhabited
def eSa (x : Sa) : List DV := [.fl x.cfg.top.net.a, .fl x.cfg.top.net.b, .fl x.cfg.top.sys, .fl x.cfg.dev, .fl x.cfg.cls, .fl x.cfg.tags, .fl (.int .i64 x.cfg.gap), .fl (.int .i64 x.cfg.weak), .fl x.cfg.tar, .fl (.int .i64 x.cfg.scale.p), .fl x.cfg.scale.a, .fl x.cfg.scale.b, .fl x.cfg.scale.c, .fl x.cfg.dis, .fl x.cfg.caps, .fl x.cfg.zones, .fl x.cfg.perm, .sl 9 (List.map eAc x.cfg.acc), .fl x.cfg.rel, .fl x.cfg.hol, .fl x.cfg.law.a, .fl x.cfg.law.b, .fl (.int .i64 x.cfg.law.c), .fl x.cfg.keep, .fl (.string x.cfg.ag), .sl 11 (List.map eSn x.seen), .sl 8 (List.map eRj x.rej), .fl x.parked, .fl (.int .i64 x.closed), .sl 8 (List.map ePg x.res.pass), .sl 8 (List.map eRj x.res.rej), .sl 5 (List.map eTp x.res.trips), .sl 5 (List.map eSy x.res.stays), .sl 7 (List.map eCg x.res.chg), .sl 2 (List.map eEc x.res.exc), .fl x.books.led.e, .sl 7 (List.map eCg x.books.done), .fl x.cases, .fl (.int .i64 x.count)]
structure Fc where
  kind : ByteArray
  key : ByteArray
  why : Int
  deriving Inhabited
def eFc (x : Fc) : List DV := [.fl (.string x.kind), .fl (.string x.key), .fl (.int .i64 x.why)]
theorem ti3 : TI Tryd.prog 3 (.int .i64 0) 1 8 := ti_of (by kernel_rfl)
theorem ti5 : TI Tryd.prog 5 (.int .u8 0) 1 1 := ti_of (by kernel_rfl)
theorem ti9 : TI Tryd.prog 9 (.string ⟨#[]⟩) 1 16 := ti_of (by kernel_rfl)
theorem ti40 : TI Tryd.prog 40 (.slice none 0 0) 1 24 := ti_of (by kernel_rfl)
theorem ti46 : TI Tryd.prog 46 (.agg #[.slice none 0 0, .slice none 0 0, .slice none 0 0, .slice none 0 0, .slice none 0 0, .slice none 0 0, .int .i64 0, .int .i64 0, .slice none 0 0, .int .i64 0, .slice none 0 0, .slice none 0 0, .slice none 0 0, .slice none 0 0, .slice none 0 0, .slice none 0 0, .slice none 0 0, .slice none 0 0, .slice none 0 0, .slice none 0 0, .slice none 0 0, .slice none 0 0, .int .i64 0, .slice none 0 0, .string ⟨#[]⟩]) 25 528 := ti_of (by kernel_rfl)
theorem ti47 : TI Tryd.prog 47 (.slice none 0 0) 1 24 := ti_of (by kernel_rfl)
theorem ti48 : TI Tryd.prog 48 (.slice none 0 0) 1 24 := ti_of (by kernel_rfl)
theorem ti50 : TI Tryd.prog 50 (.slice none 0 0) 1 24 := ti_of (by kernel_rfl)
theorem ti51 : TI Tryd.prog 51 (.slice none 0 0) 1 24 := ti_of (by kernel_rfl)
theorem ti52 : TI Tryd.prog 52 (.slice none 0 0) 1 24 := ti_of (by kernel_rfl)
theorem ti53 : TI Tryd.prog 53 (.slice none 0 0) 1 24 := ti_of (by kernel_rfl)
theorem ti54 : TI Tryd.prog 54 (.slice none 0 0) 1 24 := ti_of (by kernel_rfl)
theorem ti56 : TI Tryd.prog 56 (.agg #[.slice none 0 0, .slice none 0 0, .slice none 0 0, .slice none 0 0, .slice none 0 0, .slice none 0 0]) 6 144 := ti_of (by kernel_rfl)
theorem ti61 : TI Tryd.prog 61 (.agg #[.slice none 0 0, .slice none 0 0]) 2 48 := ti_of (by kernel_rfl)
theorem ti64 : TI Tryd.prog 64 (.agg #[.slice none 0 0, .slice none 0 0, .slice none 0 0, .slice none 0 0, .slice none 0 0, .slice none 0 0, .int .i64 0, .int .i64 0, .slice none 0 0, .int .i64 0, .slice none 0 0, .slice none 0 0, .slice none 0 0, .slice none 0 0, .slice none 0 0, .slice none 0 0, .slice none 0 0, .slice none 0 0, .slice none 0 0, .slice none 0 0, .slice none 0 0, .slice none 0 0, .int .i64 0, .slice none 0 0, .string ⟨#[]⟩, .slice none 0 0, .slice none 0 0, .slice none 0 0, .int .i64 0, .slice none 0 0, .slice none 0 0, .slice none 0 0, .slice none 0 0, .slice none 0 0, .slice none 0 0, .slice none 0 0, .slice none 0 0, .slice none 0 0, .int .i64 0]) 39 832 := ti_of (by kernel_rfl)
theorem ti66 : TI Tryd.prog 66 (.agg #[.string ⟨#[]⟩, .int .i64 0]) 2 24 := ti_of (by kernel_rfl)
theorem ti69 : TI Tryd.prog 69 (.slice none 0 0) 1 24 := ti_of (by kernel_rfl)
theorem ti81 : TI Tryd.prog 81 (.agg #[.string ⟨#[]⟩, .string ⟨#[]⟩, .int .i64 0]) 3 40 := ti_of (by kernel_rfl)
theorem ti85 : TI Tryd.prog 85 (.slice none 0 0) 1 24 := ti_of (by kernel_rfl)
theorem ti87 : TI Tryd.prog 87 (.agg #[.string ⟨#[]⟩, .string ⟨#[]⟩, .int .i64 0, .string ⟨#[]⟩, .string ⟨#[]⟩, .int .i64 0, .int .i64 0, .slice none 0 0]) 8 112 := ti_of (by kernel_rfl)
theorem ti88 : TI Tryd.prog 88 (.slice none 0 0) 1 24 := ti_of (by kernel_rfl)
theorem ti90 : TI Tryd.prog 90 (.agg #[.string ⟨#[]⟩, .string ⟨#[]⟩, .string ⟨#[]⟩, .int .i64 0, .slice none 0 0]) 5 80 := ti_of (by kernel_rfl)
theorem ti91 : TI Tryd.prog 91 (.slice none 0 0) 1 24 := ti_of (by kernel_rfl)
theorem ti93 : TI Tryd.prog 93 (.agg #[.string ⟨#[]⟩, .string ⟨#[]⟩, .string ⟨#[]⟩, .int .i64 0, .int .i64 0, .slice none 0 0, .int .i64 0]) 7 96 := ti_of (by kernel_rfl)
theorem ti94 : TI Tryd.prog 94 (.slice none 0 0) 1 24 := ti_of (by kernel_rfl)
theorem ti98 : TI Tryd.prog 98 (.agg #[.string ⟨#[]⟩, .string ⟨#[]⟩, .bool false, .slice none 0 0, .int .i64 0, .int .i64 0, .int .i64 0, .int .i64 0, .bool false]) 9 104 := ti_of (by kernel_rfl)
theorem ti100 : TI Tryd.prog 100 (.agg #[.string ⟨#[]⟩, .int .i64 0, .string ⟨#[]⟩]) 3 40 := ti_of (by kernel_rfl)
theorem ti102 : TI Tryd.prog 102 (.agg #[.string ⟨#[]⟩, .int .i64 0]) 2 24 := ti_of (by kernel_rfl)
theorem ti104 : TI Tryd.prog 104 (.agg #[.string ⟨#[]⟩, .int .i64 0, .int .i64 0, .string ⟨#[]⟩, .string ⟨#[]⟩, .int .i64 0, .int .i64 0]) 7 80 := ti_of (by kernel_rfl)
theorem ti106 : TI Tryd.prog 106 (.agg #[.string ⟨#[]⟩, .int .i64 0, .int .i64 0, .string ⟨#[]⟩, .string ⟨#[]⟩, .int .i64 0, .int .i64 0, .int .i64 0, .string ⟨#[]⟩, .int .i64 0, .int .i64 0]) 11 120 := ti_of (by kernel_rfl)
theorem ti109 : TI Tryd.prog 109 (.agg #[.string ⟨#[]⟩, .int .i64 0, .int .i64 0, .string ⟨#[]⟩, .string ⟨#[]⟩, .int .i64 0, .int .i64 0, .int .i64 0]) 8 88 := ti_of (by kernel_rfl)
theorem ti124 : TI Tryd.prog 124 (.agg #[.int .i64 0, .int .i64 0]) 2 16 := ti_of (by kernel_rfl)
theorem ti126 : TI Tryd.prog 126 (.agg #[.string ⟨#[]⟩, .string ⟨#[]⟩, .string ⟨#[]⟩, .int .i64 0, .int .i64 0]) 5 64 := ti_of (by kernel_rfl)
theorem ti133 : TI Tryd.prog 133 (.slice none 0 0) 1 24 := ti_of (by kernel_rfl)
theorem ti145 : TI Tryd.prog 145 .nilFunc 1 8 := ti_of (by kernel_rfl)
theorem ti154 : TI Tryd.prog 154 (.agg #[.string ⟨#[]⟩, .int .i64 0]) 2 24 := ti_of (by kernel_rfl)
theorem ti159 : TI Tryd.prog 159 (.agg #[.string ⟨#[]⟩, .string ⟨#[]⟩, .int .i64 0, .int .i64 0]) 4 48 := ti_of (by kernel_rfl)
theorem nm7 : (Tryd.f7.name == "runtime.NumGoroutine") = false := by kernel_rfl
theorem nm8 : (Tryd.f8.name == "runtime.NumGoroutine") = false := by kernel_rfl
theorem nm9 : (Tryd.f9.name == "runtime.NumGoroutine") = false := by kernel_rfl
theorem nm10 : (Tryd.f10.name == "runtime.NumGoroutine") = false := by kernel_rfl
theorem nm11 : (Tryd.f11.name == "runtime.NumGoroutine") = false := by kernel_rfl
theorem nm12 : (Tryd.f12.name == "runtime.NumGoroutine") = false := by kernel_rfl
theorem nm13 : (Tryd.f13.name == "runtime.NumGoroutine") = false := by kernel_rfl
theorem nm14 : (Tryd.f14.name == "runtime.NumGoroutine") = false := by kernel_rfl
theorem nm15 : (Tryd.f15.name == "runtime.NumGoroutine") = false := by kernel_rfl
theorem nm16 : (Tryd.f16.name == "runtime.NumGoroutine") = false := by kernel_rfl
theorem nm17 : (Tryd.f17.name == "runtime.NumGoroutine") = false := by kernel_rfl
theorem nm18 : (Tryd.f18.name == "runtime.NumGoroutine") = false := by kernel_rfl
theorem nm19 : (Tryd.f19.name == "runtime.NumGoroutine") = false := by kernel_rfl
theorem nm20 : (Tryd.f20.name == "runtime.NumGoroutine") = false := by kernel_rfl
theorem nm21 : (Tryd.f21.name == "runtime.NumGoroutine") = false := by kernel_rfl
theorem nm22 : (Tryd.f22.name == "runtime.NumGoroutine") = false := by kernel_rfl
theorem nm23 : (Tryd.f23.name == "runtime.NumGoroutine") = false := by kernel_rfl
theorem nm24 : (Tryd.f24.name == "runtime.NumGoroutine") = false := by kernel_rfl
theorem nm25 : (Tryd.f25.name == "runtime.NumGoroutine") = false := by kernel_rfl
theorem nm26 : (Tryd.f26.name == "runtime.NumGoroutine") = false := by kernel_rfl
theorem nm27 : (Tryd.f27.name == "runtime.NumGoroutine") = false := by kernel_rfl
theorem nm28 : (Tryd.f28.name == "runtime.NumGoroutine") = false := by kernel_rfl
theorem nm29 : (Tryd.f29.name == "runtime.NumGoroutine") = false := by kernel_rfl
theorem nm30 : (Tryd.f30.name == "runtime.NumGoroutine") = false := by kernel_rfl
theorem nm31 : (Tryd.f31.name == "runtime.NumGoroutine") = false := by kernel_rfl
theorem nm32 : (Tryd.f32.name == "runtime.NumGoroutine") = false := by kernel_rfl
theorem nm33 : (Tryd.f33.name == "runtime.NumGoroutine") = false := by kernel_rfl
theorem nm34 : (Tryd.f34.name == "runtime.NumGoroutine") = false := by kernel_rfl
theorem nm35 : (Tryd.f35.name == "runtime.NumGoroutine") = false := by kernel_rfl
theorem nm36 : (Tryd.f36.name == "runtime.NumGoroutine") = false := by kernel_rfl
theorem nm37 : (Tryd.f37.name == "runtime.NumGoroutine") = false := by kernel_rfl
theorem nm38 : (Tryd.f38.name == "runtime.NumGoroutine") = false := by kernel_rfl
theorem nm39 : (Tryd.f39.name == "runtime.NumGoroutine") = false := by kernel_rfl
theorem nm40 : (Tryd.f40.name == "runtime.NumGoroutine") = false := by kernel_rfl
theorem nm41 : (Tryd.f41.name == "runtime.NumGoroutine") = false := by kernel_rfl
theorem nm42 : (Tryd.f42.name == "runtime.NumGoroutine") = false := by kernel_rfl
theorem nm43 : (Tryd.f43.name == "runtime.NumGoroutine") = false := by kernel_rfl
theorem nm44 : (Tryd.f44.name == "runtime.NumGoroutine") = false := by kernel_rfl
theorem nm45 : (Tryd.f45.name == "runtime.NumGoroutine") = false := by kernel_rfl
theorem nm46 : (Tryd.f46.name == "runtime.NumGoroutine") = false := by kernel_rfl
theorem nm47 : (Tryd.f47.name == "runtime.NumGoroutine") = false := by kernel_rfl
theorem nm48 : (Tryd.f48.name == "runtime.NumGoroutine") = false := by kernel_rfl
theorem nm49 : (Tryd.f49.name == "runtime.NumGoroutine") = false := by kernel_rfl
theorem nm50 : (Tryd.f50.name == "runtime.NumGoroutine") = false := by kernel_rfl
theorem nm51 : (Tryd.f51.name == "runtime.NumGoroutine") = false := by kernel_rfl
theorem nm52 : (Tryd.f52.name == "runtime.NumGoroutine") = false := by kernel_rfl
theorem nm53 : (Tryd.f53.name == "runtime.NumGoroutine") = false := by kernel_rfl
theorem nm54 : (Tryd.f54.name == "runtime.NumGoroutine") = false := by kernel_rfl
theorem nm55 : (Tryd.f55.name == "runtime.NumGoroutine") = false := by kernel_rfl
theorem nm56 : (Tryd.f56.name == "runtime.NumGoroutine") = false := by kernel_rfl
theorem nm57 : (Tryd.f57.name == "runtime.NumGoroutine") = false := by kernel_rfl
theorem nm58 : (Tryd.f58.name == "runtime.NumGoroutine") = false := by kernel_rfl
theorem nm59 : (Tryd.f59.name == "runtime.NumGoroutine") = false := by kernel_rfl
theorem nm60 : (Tryd.f60.name == "runtime.NumGoroutine") = false := by kernel_rfl
theorem nm61 : (Tryd.f61.name == "runtime.NumGoroutine") = false := by kernel_rfl
theorem nm62 : (Tryd.f62.name == "runtime.NumGoroutine") = false := by kernel_rfl
theorem nm63 : (Tryd.f63.name == "runtime.NumGoroutine") = false := by kernel_rfl
theorem nm64 : (Tryd.f64.name == "runtime.NumGoroutine") = false := by kernel_rfl
theorem nm65 : (Tryd.f65.name == "runtime.NumGoroutine") = false := by kernel_rfl
theorem nm66 : (Tryd.f66.name == "runtime.NumGoroutine") = false := by kernel_rfl
theorem nm67 : (Tryd.f67.name == "runtime.NumGoroutine") = false := by kernel_rfl
theorem nm69 : (Tryd.f69.name == "runtime.NumGoroutine") = false := by kernel_rfl
theorem nm72 : (Tryd.f72.name == "runtime.NumGoroutine") = false := by kernel_rfl
theorem nm73 : (Tryd.f73.name == "runtime.NumGoroutine") = false := by kernel_rfl
theorem nm75 : (Tryd.f75.name == "runtime.NumGoroutine") = false := by kernel_rfl
theorem nm76 : (Tryd.f76.name == "runtime.NumGoroutine") = false := by kernel_rfl
theorem nm77 : (Tryd.f77.name == "runtime.NumGoroutine") = false := by kernel_rfl
theorem nm78 : (Tryd.f78.name == "runtime.NumGoroutine") = false := by kernel_rfl
theorem nm82 : (Tryd.f82.name == "runtime.NumGoroutine") = false := by kernel_rfl
end Go.Proofs.YtgfbgkoifcacdaaDoor.Wk
