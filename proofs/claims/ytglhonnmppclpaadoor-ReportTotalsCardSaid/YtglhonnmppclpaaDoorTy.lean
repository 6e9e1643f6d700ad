/- The types of the program, and data of them. No condition. -/
import Derived.Test.YtglhonnmppclpaaDoorProg
import Derived.Test.YtglhonnmppclpaaDoorAvF
set_option linter.unusedSimpArgs false
set_option linter.unusedVariables false
namespace Go.Proofs.YtglhonnmppclpaaDoor.Wk
open Go Go.RowKit Go.Proofs.YtglhonnmppclpaaDoor.Av
structure So where
  dev : ByteArray
  seq : Int
  deriving Inhabited
def eSo (x : So) : List DV := [.fl (.string x.dev), .fl (.int .i64 x.seq)]
structure De where
  dev : ByteArray
  seq : Int
  time : Int
  tag : ByteArray
  plate : ByteArray
  axles : Int
  score : Int
  deriving Inhabited
def eDe (x : De) : List DV := [.fl (.string x.dev), .fl (.int .i64 x.seq), .fl (.int .i64 x.time), .fl (.string x.tag), .fl (.string x.plate), .fl (.int .i64 x.axles), .fl (.int .i64 x.score)]
structure Rj where
  d : De
  why : Int
  deriving Inhabited
def eRj (x : Rj) : List DV := [.fl (.string x.d.dev), .fl (.int .i64 x.d.seq), .fl (.int .i64 x.d.time), .fl (.string x.d.tag), .fl (.string x.d.plate), .fl (.int .i64 x.d.axles), .fl (.int .i64 x.d.score), .fl (.int .i64 x.why)]
structure Pg where
  id : ByteArray
  point : ByteArray
  time : Int
  tag : ByteArray
  plate : ByteArray
  cls : Int
  score : Int
  srcs : Value
  deriving Inhabited
def ePg (x : Pg) : List DV := [.fl (.string x.id), .fl (.string x.point), .fl (.int .i64 x.time), .fl (.string x.tag), .fl (.string x.plate), .fl (.int .i64 x.cls), .fl (.int .i64 x.score), .fl x.srcs]
structure Tp where
  id : ByteArray
  veh : ByteArray
  sys : ByteArray
  cls : Int
  stops : Value
  deriving Inhabited
def eTp (x : Tp) : List DV := [.fl (.string x.id), .fl (.string x.veh), .fl (.string x.sys), .fl (.int .i64 x.cls), .fl x.stops]
structure Ln where
  text : ByteArray
  cents : Int
  deriving Inhabited
def eLn (x : Ln) : List DV := [.fl (.string x.text), .fl (.int .i64 x.cents)]
structure Cg where
  key : ByteArray
  veh : ByteArray
  sys : ByteArray
  cls : Int
  time : Int
  lines : List Ln
  cents : Int
  deriving Inhabited
def eCg (x : Cg) : List DV := [.fl (.string x.key), .fl (.string x.veh), .fl (.string x.sys), .fl (.int .i64 x.cls), .fl (.int .i64 x.time), .sl 2 (List.map eLn x.lines), .fl (.int .i64 x.cents)]
structure Ec where
  id : ByteArray
  why : Int
  deriving Inhabited
def eEc (x : Ec) : List DV := [.fl (.string x.id), .fl (.int .i64 x.why)]
structure Iv where
  fr : Int
  to : Int
  deriving Inhabited
def eIv (x : Iv) : List DV := [.fl (.int .i64 x.fr), .fl (.int .i64 x.to)]
structure Sy where
  id : ByteArray
  zone : ByteArray
  plate : ByteArray
  time : Iv
  deriving Inhabited
def eSy (x : Sy) : List DV := [.fl (.string x.id), .fl (.string x.zone), .fl (.string x.plate), .fl (.int .i64 x.time.fr), .fl (.int .i64 x.time.to)]
structure Ow where
  tag : ByteArray
  plate : ByteArray
  time : Iv
  deriving Inhabited
def eOw (x : Ow) : List DV := [.fl (.string x.tag), .fl (.string x.plate), .fl (.int .i64 x.time.fr), .fl (.int .i64 x.time.to)]
structure Rf where
  a : Int
  b : Int
  c : Int
  d : Int
  deriving Inhabited
def eRf (x : Rf) : List DV := [.fl (.int .i64 x.a), .fl (.int .i64 x.b), .fl (.int .i64 x.c), .fl (.int .i64 x.d)]
structure Ac where
  name : ByteArray
  agency : ByteArray
  prepay : Bool
  owned : List Ow
  refill : Rf
  exempt : Bool
  deriving Inhabited
def eAc (x : Ac) : List DV := [.fl (.string x.name), .fl (.string x.agency), .fl (.bool x.prepay), .sl 4 (List.map eOw x.owned), .fl (.int .i64 x.refill.a), .fl (.int .i64 x.refill.b), .fl (.int .i64 x.refill.c), .fl (.int .i64 x.refill.d), .fl (.bool x.exempt)]
structure Rs where
  pass : List Pg
  rej : List Rj
  trips : List Tp
  stays : List Sy
  chg : List Cg
  exc : List Ec
  deriving Inhabited
def eRs (x : Rs) : List DV := [.sl 8 (List.map ePg x.pass), .sl 8 (List.map eRj x.rej), .sl 5 (List.map eTp x.trips), .sl 5 (List.map eSy x.stays), .sl 7 (List.map eCg x.chg), .sl 2 (List.map eEc x.exc)]
structure Nw where
  a : Value
  b : Value
  deriving Inhabited
def eNw (x : Nw) : List DV := [.fl x.a, .fl x.b]
structure Tq where
  net : Nw
  sys : Value
  deriving Inhabited
def eTq (x : Tq) : List DV := [.fl x.net.a, .fl x.net.b, .fl x.sys]
structure Sc where
  p : Int
  a : Value
  b : Value
  c : Value
  deriving Inhabited
def eSc (x : Sc) : List DV := [.fl (.int .i64 x.p), .fl x.a, .fl x.b, .fl x.c]
structure Lw where
  days : List Int
  fees : List Int
  limit : Int
  deriving Inhabited
def eLw (x : Lw) : List DV := [.sl 1 (List.map (rI .i64) x.days), .sl 1 (List.map (rI .i64) x.fees), .fl (.int .i64 x.limit)]
structure Cf where
  top : Tq
  dev : Value
  cls : Value
  tags : Value
  gap : Int
  weak : Int
  tar : Value
  scale : Sc
  dis : Value
  caps : Value
  zones : Value
  perm : Value
  acc : List Ac
  rel : Value
  hol : List Int
  law : Lw
  keep : Value
  ag : ByteArray
  deriving Inhabited
def eCf (x : Cf) : List DV := [.fl x.top.net.a, .fl x.top.net.b, .fl x.top.sys, .fl x.dev, .fl x.cls, .fl x.tags, .fl (.int .i64 x.gap), .fl (.int .i64 x.weak), .fl x.tar, .fl (.int .i64 x.scale.p), .fl x.scale.a, .fl x.scale.b, .fl x.scale.c, .fl x.dis, .fl x.caps, .fl x.zones, .fl x.perm, .sl 9 (List.map eAc x.acc), .fl x.rel, .sl 1 (List.map (rI .i64) x.hol), .sl 1 (List.map (rI .i64) x.law.days), .sl 1 (List.map (rI .i64) x.law.fees), .fl (.int .i64 x.law.limit), .fl x.keep, .fl (.string x.ag)]
structure Po where
  acc : ByteArray
  cents : Int
  deriving Inhabited
def ePo (x : Po) : List DV := [.fl (.string x.acc), .fl (.int .i64 x.cents)]
structure En where
  key : ByteArray
  time : Int
  posts : List Po
  deriving Inhabited
def eEn (x : En) : List DV := [.fl (.string x.key), .fl (.int .i64 x.time), .sl 2 (List.map ePo x.posts)]
structure Lg where
  e : List En
  deriving Inhabited
def eLg (x : Lg) : List DV := [.sl 3 (List.map eEn x.e)]
structure Bo where
  led : Lg
  done : List Cg
  deriving Inhabited
def eBo (x : Bo) : List DV := [.sl 3 (List.map eEn x.led.e), .sl 7 (List.map eCg x.done)]
structure Ap where
  state : Int
  ground : Int
  day : Int
  deriving Inhabited
def eAp (x : Ap) : List DV := [.fl (.int .i64 x.state), .fl (.int .i64 x.ground), .fl (.int .i64 x.day)]
structure Cs where
  id : ByteArray
  plate : ByteArray
  key : ByteArray
  begun : Int
  since : Int
  stage : Int
  owed : Int
  paid : Int
  paused : Int
  ap : Ap
  deriving Inhabited
def eCs (x : Cs) : List DV := [.fl (.string x.id), .fl (.string x.plate), .fl (.string x.key), .fl (.int .i64 x.begun), .fl (.int .i64 x.since), .fl (.int .i64 x.stage), .fl (.int .i64 x.owed), .fl (.int .i64 x.paid), .fl (.int .i64 x.paused), .fl (.int .i64 x.ap.state), .fl (.int .i64 x.ap.ground), .fl (.int .i64 x.ap.day)]
structure Sa where
  cfg : Cf
  seen : Value
  rej : Value
  parked : Value
  closed : Int
  res : Rs
  books : Bo
  cases : List Cs
  count : Int
  deriving Inhabited
def eSa (x : Sa) : List DV := [.fl x.cfg.top.net.a, .fl x.cfg.top.net.b, .fl x.cfg.top.sys, .fl x.cfg.dev, .fl x.cfg.cls, .fl x.cfg.tags, .fl (.int .i64 x.cfg.gap), .fl (.int .i64 x.cfg.weak), .fl x.cfg.tar, .fl (.int .i64 x.cfg.scale.p), .fl x.cfg.scale.a, .fl x.cfg.scale.b, .fl x.cfg.scale.c, .fl x.cfg.dis, .fl x.cfg.caps, .fl x.cfg.zones, .fl x.cfg.perm, .sl 9 (List.map eAc x.cfg.acc), .fl x.cfg.rel, .sl 1 (List.map (rI .i64) x.cfg.hol), .sl 1 (List.map (rI .i64) x.cfg.law.days), .sl 1 (List.map (rI .i64) x.cfg.law.fees), .fl (.int .i64 x.cfg.law.limit), .fl x.cfg.keep, .fl (.string x.cfg.ag), .fl x.seen, .fl x.rej, .fl x.parked, .fl (.int .i64 x.closed), .sl 8 (List.map ePg x.res.pass), .sl 8 (List.map eRj x.res.rej), .sl 5 (List.map eTp x.res.trips), .sl 5 (List.map eSy x.res.stays), .sl 7 (List.map eCg x.res.chg), .sl 2 (List.map eEc x.res.exc), .sl 3 (List.map eEn x.books.led.e), .sl 7 (List.map eCg x.books.done), .sl 12 (List.map eCs x.cases), .fl (.int .i64 x.count)]
theorem ti3 : TI Tryd.prog 3 (.int .i64 0) 1 8 := ti_of (by kernel_rfl)
theorem ti4 : TI Tryd.prog 4 (.bool false) 1 1 := ti_of (by kernel_rfl)
theorem ti5 : TI Tryd.prog 5 (.int .u8 0) 1 1 := ti_of (by kernel_rfl)
theorem ti9 : TI Tryd.prog 9 (.string ⟨#[]⟩) 1 16 := ti_of (by kernel_rfl)
theorem ti22 : TI Tryd.prog 22 (.slice none 0 0) 1 24 := ti_of (by kernel_rfl)
theorem ti24 : TI Tryd.prog 24 (.agg #[.string ⟨#[]⟩, .string ⟨#[]⟩, .string ⟨#[]⟩, .int .i64 0, .int .i64 0, .slice none 0 0, .int .i64 0]) 7 96 := ti_of (by kernel_rfl)
theorem ti39 : TI Tryd.prog 39 (.slice none 0 0) 1 24 := ti_of (by kernel_rfl)
theorem ti46 : TI Tryd.prog 46 (.slice none 0 0) 1 24 := ti_of (by kernel_rfl)
theorem ti49 : TI Tryd.prog 49 (.agg #[.slice none 0 0, .slice none 0 0, .int .i64 0]) 3 56 := ti_of (by kernel_rfl)
theorem ti52 : TI Tryd.prog 52 (.agg #[.slice none 0 0, .slice none 0 0, .slice none 0 0, .slice none 0 0, .slice none 0 0, .slice none 0 0, .int .i64 0, .int .i64 0, .slice none 0 0, .int .i64 0, .slice none 0 0, .slice none 0 0, .slice none 0 0, .slice none 0 0, .slice none 0 0, .slice none 0 0, .slice none 0 0, .slice none 0 0, .slice none 0 0, .slice none 0 0, .slice none 0 0, .slice none 0 0, .int .i64 0, .slice none 0 0, .string ⟨#[]⟩]) 25 528 := ti_of (by kernel_rfl)
theorem ti54 : TI Tryd.prog 54 (.slice none 0 0) 1 24 := ti_of (by kernel_rfl)
theorem ti56 : TI Tryd.prog 56 (.slice none 0 0) 1 24 := ti_of (by kernel_rfl)
theorem ti57 : TI Tryd.prog 57 (.slice none 0 0) 1 24 := ti_of (by kernel_rfl)
theorem ti58 : TI Tryd.prog 58 (.slice none 0 0) 1 24 := ti_of (by kernel_rfl)
theorem ti59 : TI Tryd.prog 59 (.slice none 0 0) 1 24 := ti_of (by kernel_rfl)
theorem ti60 : TI Tryd.prog 60 (.slice none 0 0) 1 24 := ti_of (by kernel_rfl)
theorem ti62 : TI Tryd.prog 62 (.agg #[.slice none 0 0, .slice none 0 0, .slice none 0 0, .slice none 0 0, .slice none 0 0, .slice none 0 0]) 6 144 := ti_of (by kernel_rfl)
theorem ti63 : TI Tryd.prog 63 (.slice none 0 0) 1 24 := ti_of (by kernel_rfl)
theorem ti65 : TI Tryd.prog 65 (.agg #[.slice none 0 0]) 1 24 := ti_of (by kernel_rfl)
theorem ti67 : TI Tryd.prog 67 (.agg #[.slice none 0 0, .slice none 0 0]) 2 48 := ti_of (by kernel_rfl)
theorem ti68 : TI Tryd.prog 68 (.slice none 0 0) 1 24 := ti_of (by kernel_rfl)
theorem ti70 : TI Tryd.prog 70 (.agg #[.slice none 0 0, .slice none 0 0, .slice none 0 0, .slice none 0 0, .slice none 0 0, .slice none 0 0, .int .i64 0, .int .i64 0, .slice none 0 0, .int .i64 0, .slice none 0 0, .slice none 0 0, .slice none 0 0, .slice none 0 0, .slice none 0 0, .slice none 0 0, .slice none 0 0, .slice none 0 0, .slice none 0 0, .slice none 0 0, .slice none 0 0, .slice none 0 0, .int .i64 0, .slice none 0 0, .string ⟨#[]⟩, .slice none 0 0, .slice none 0 0, .slice none 0 0, .int .i64 0, .slice none 0 0, .slice none 0 0, .slice none 0 0, .slice none 0 0, .slice none 0 0, .slice none 0 0, .slice none 0 0, .slice none 0 0, .slice none 0 0, .int .i64 0]) 39 832 := ti_of (by kernel_rfl)
theorem ti84 : TI Tryd.prog 84 (.agg #[.string ⟨#[]⟩, .int .i64 0]) 2 24 := ti_of (by kernel_rfl)
theorem ti86 : TI Tryd.prog 86 (.slice none 0 0) 1 24 := ti_of (by kernel_rfl)
theorem ti88 : TI Tryd.prog 88 (.agg #[.pointer none, .slice none 0 0]) 2 32 := ti_of (by kernel_rfl)
theorem ti100 : TI Tryd.prog 100 (.agg #[.int .i64 0, .int .i64 0, .int .i64 0]) 3 24 := ti_of (by kernel_rfl)
theorem ti102 : TI Tryd.prog 102 (.agg #[.string ⟨#[]⟩, .string ⟨#[]⟩, .string ⟨#[]⟩, .int .i64 0, .int .i64 0, .int .i64 0, .int .i64 0, .int .i64 0, .int .i64 0, .int .i64 0, .int .i64 0, .int .i64 0]) 12 120 := ti_of (by kernel_rfl)
theorem ti103 : TI Tryd.prog 103 (.slice none 0 0) 1 24 := ti_of (by kernel_rfl)
theorem ti105 : TI Tryd.prog 105 (.agg #[.string ⟨#[]⟩, .int .i64 0, .slice none 0 0]) 3 48 := ti_of (by kernel_rfl)
theorem ti107 : TI Tryd.prog 107 (.agg #[.string ⟨#[]⟩, .int .i64 0]) 2 24 := ti_of (by kernel_rfl)
theorem ti115 : TI Tryd.prog 115 (.agg #[.string ⟨#[]⟩, .string ⟨#[]⟩, .bool false, .slice none 0 0, .int .i64 0, .int .i64 0, .int .i64 0, .int .i64 0, .bool false]) 9 104 := ti_of (by kernel_rfl)
theorem nm8 : (Tryd.f8.name == "runtime.NumGoroutine") = false := by kernel_rfl
theorem nm9 : (Tryd.f9.name == "runtime.NumGoroutine") = false := by kernel_rfl
theorem nm10 : (Tryd.f10.name == "runtime.NumGoroutine") = false := by kernel_rfl
theorem nm11 : (Tryd.f11.name == "runtime.NumGoroutine") = false := by kernel_rfl
theorem nm12 : (Tryd.f12.name == "runtime.NumGoroutine") = false := by kernel_rfl
theorem nm13 : (Tryd.f13.name == "runtime.NumGoroutine") = false := by kernel_rfl
theorem nm14 : (Tryd.f14.name == "runtime.NumGoroutine") = false := by kernel_rfl
theorem nm15 : (Tryd.f15.name == "runtime.NumGoroutine") = false := by kernel_rfl
theorem nm17 : (Tryd.f17.name == "runtime.NumGoroutine") = false := by kernel_rfl
theorem nm18 : (Tryd.f18.name == "runtime.NumGoroutine") = false := by kernel_rfl
theorem nm19 : (Tryd.f19.name == "runtime.NumGoroutine") = false := by kernel_rfl
theorem nm20 : (Tryd.f20.name == "runtime.NumGoroutine") = false := by kernel_rfl
theorem nm21 : (Tryd.f21.name == "runtime.NumGoroutine") = false := by kernel_rfl
theorem nm22 : (Tryd.f22.name == "runtime.NumGoroutine") = false := by kernel_rfl
theorem nm23 : (Tryd.f23.name == "runtime.NumGoroutine") = false := by kernel_rfl
theorem nm24 : (Tryd.f24.name == "runtime.NumGoroutine") = false := by kernel_rfl
theorem nm25 : (Tryd.f25.name == "runtime.NumGoroutine") = false := by kernel_rfl
theorem nm26 : (Tryd.f26.name == "runtime.NumGoroutine") = false := by kernel_rfl
theorem nm27 : (Tryd.f27.name == "runtime.NumGoroutine") = false := by kernel_rfl
theorem nm28 : (Tryd.f28.name == "runtime.NumGoroutine") = false := by kernel_rfl
theorem nm29 : (Tryd.f29.name == "runtime.NumGoroutine") = false := by kernel_rfl
theorem nm30 : (Tryd.f30.name == "runtime.NumGoroutine") = false := by kernel_rfl
theorem nm31 : (Tryd.f31.name == "runtime.NumGoroutine") = false := by kernel_rfl
theorem nm32 : (Tryd.f32.name == "runtime.NumGoroutine") = false := by kernel_rfl
theorem nm33 : (Tryd.f33.name == "runtime.NumGoroutine") = false := by kernel_rfl
theorem nm34 : (Tryd.f34.name == "runtime.NumGoroutine") = false := by kernel_rfl
theorem nm35 : (Tryd.f35.name == "runtime.NumGoroutine") = false := by kernel_rfl
theorem nm36 : (Tryd.f36.name == "runtime.NumGoroutine") = false := by kernel_rfl
theorem nm37 : (Tryd.f37.name == "runtime.NumGoroutine") = false := by kernel_rfl
theorem nm38 : (Tryd.f38.name == "runtime.NumGoroutine") = false := by kernel_rfl
theorem nm39 : (Tryd.f39.name == "runtime.NumGoroutine") = false := by kernel_rfl
theorem nm45 : (Tryd.f45.name == "runtime.NumGoroutine") = false := by kernel_rfl
theorem nm46 : (Tryd.f46.name == "runtime.NumGoroutine") = false := by kernel_rfl
theorem nm47 : (Tryd.f47.name == "runtime.NumGoroutine") = false := by kernel_rfl
theorem nm48 : (Tryd.f48.name == "runtime.NumGoroutine") = false := by kernel_rfl
theorem nm49 : (Tryd.f49.name == "runtime.NumGoroutine") = false := by kernel_rfl
theorem nm50 : (Tryd.f50.name == "runtime.NumGoroutine") = false := by kernel_rfl
theorem nm51 : (Tryd.f51.name == "runtime.NumGoroutine") = false := by kernel_rfl
theorem nm52 : (Tryd.f52.name == "runtime.NumGoroutine") = false := by kernel_rfl
theorem nm53 : (Tryd.f53.name == "runtime.NumGoroutine") = false := by kernel_rfl
theorem nm54 : (Tryd.f54.name == "runtime.NumGoroutine") = false := by kernel_rfl
theorem nm55 : (Tryd.f55.name == "runtime.NumGoroutine") = false := by kernel_rfl
theorem nm56 : (Tryd.f56.name == "runtime.NumGoroutine") = false := by kernel_rfl
theorem nm57 : (Tryd.f57.name == "runtime.NumGoroutine") = false := by kernel_rfl
theorem nm58 : (Tryd.f58.name == "runtime.NumGoroutine") = false := by kernel_rfl
theorem nm59 : (Tryd.f59.name == "runtime.NumGoroutine") = false := by kernel_rfl
theorem nm64 : (Tryd.f64.name == "runtime.NumGoroutine") = false := by kernel_rfl
theorem nm68 : (Tryd.f68.name == "runtime.NumGoroutine") = false := by kernel_rfl
theorem nm69 : (Tryd.f69.name == "runtime.NumGoroutine") = false := by kernel_rfl
theorem nm70 : (Tryd.f70.name == "runtime.NumGoroutine") = false := by kernel_rfl
theorem nm72 : (Tryd.f72.name == "runtime.NumGoroutine") = false := by kernel_rfl
theorem nm73 : (Tryd.f73.name == "runtime.NumGoroutine") = false := by kernel_rfl
theorem nm75 : (Tryd.f75.name == "runtime.NumGoroutine") = false := by kernel_rfl
theorem nm79 : (Tryd.f79.name == "runtime.NumGoroutine") = false := by kernel_rfl
theorem nm80 : (Tryd.f80.name == "runtime.NumGoroutine") = false := by kernel_rfl
theorem nm81 : (Tryd.f81.name == "runtime.NumGoroutine") = false := by kernel_rfl
theorem nm83 : (Tryd.f83.name == "runtime.NumGoroutine") = false := by kernel_rfl
theorem nm84 : (Tryd.f84.name == "runtime.NumGoroutine") = false := by kernel_rfl
theorem nm89 : (Tryd.f89.name == "runtime.NumGoroutine") = false := by kernel_rfl
theorem nm92 : (Tryd.f92.name == "runtime.NumGoroutine") = false := by kernel_rfl
theorem nm93 : (Tryd.f93.name == "runtime.NumGoroutine") = false := by kernel_rfl
theorem nm95 : (Tryd.f95.name == "runtime.NumGoroutine") = false := by kernel_rfl
end Go.Proofs.YtglhonnmppclpaaDoor.Wk
