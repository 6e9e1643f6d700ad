/- Rules for states of data. Conditions: as each theorem names them. -/
import Derived.Test.YtipkielpicfobaaAvC
import Derived.Laws.Shifts
import Derived.Laws.Unary
import Derived.Laws.Entries
import Derived.Lib.ConvBytes
import Derived.Lib.AppendStr
import Derived.Laws.IdiomCopy
import Derived.Laws.MakeOwn
import Derived.Laws.Slices
import Derived.LoopN
set_option linter.unusedSimpArgs false
set_option linter.unusedVariables false
namespace Go.Proofs.Ytipkielpicfobaa.Av
open Go Go.RowKit
section
variable {P : Program} (t : TypeId) (k yk : IntKind) (a b : Int) (x y : Operand) (w : World)
end
end Go.Proofs.Ytipkielpicfobaa.Av

namespace Go.Proofs.Ytipkielpicfobaa.Av
open Go Go.RowKit
section
variable {P : Program} {N : Nat} {w0 : World} {U0 : Nat → Nat}
theorem op_convK {o : Oper} {σ : AS} {src dst : TypeId} {x : Operand} (ho : o.op = .convert src dst x) {k0 k k' : IntKind} {n : Int} (hs : P.underlying src = some (.int k0)) (ht : P.underlying dst = some (.int k)) (hx : σ.ev x = .d (.fl (.int k' n))) (hd : dOk o N = true) : OpS P N w0 U0 o σ ⟨o.dst.map fun d => (d, .d (.fl (.int k (k.wrap n)))), [], [], []⟩ :=
  opS_still hd fun σ' hok a w F hF => by
    have h1 := flat_val (ev_get hok hF (x := x) (by simp [ho, Op.operands]) hx)
    exact ⟨.int k (k.wrap n), by simp [execOp, ho, h1, convert, run_underlying hs, run_underlying ht, Conv.intToInt], .fl _⟩
end
end Go.Proofs.Ytipkielpicfobaa.Av

namespace Go.Proofs.Ytipkielpicfobaa.Av
open Go Go.RowKit
def CtrT (P : Program) (f : FuncId) (e : TypeId) (z : Nat) (rows : List (List OC)) (args : List DV) (rows' : List (List OC)) : Prop :=
  ∀ (v : Value) (vals : List Value) (U : Nat → Nat) (S0 : Nat → Prop) (w : World), Rob 0 w (thF none v U S0) 0 (.tr e z rows) → Rds w U vals args →
    Calls P f (v :: vals).toArray w fun ex w' => ∃ rv U' S', ex = .returned rv ∧ Below 0 (bare w) w' ∧ (∀ g, g < w.heap.size → ¬ S0 g → w'.heap[g]? = w.heap[g]? ∧ U' g = U g) ∧ (∀ g, S' g → S0 g ∨ w.heap.size ≤ g) ∧ Rob 0 w' (thF none rv U' S') 0 (.tr e z rows')
section
variable {P : Program} {N : Nat} {w0 : World} {U0 : Nat → Nat}
def retT (t : Nat) (e : TypeId) (z : Nat) (rows' : List (List OC)) (H : World) (V : Nat → Nat) (Q : Nat → Prop) : Exit → AS → Prop
  | .normal, σ | .ret, σ => ∃ m, m ≠ 1 ∧ σ.t t = .ow m ∧ σ.n m = .tr e z rows' ∧ σ.n 1 = .pin H V Q
  | _, _ => False
end
end Go.Proofs.Ytipkielpicfobaa.Av

namespace Go.Proofs.Ytipkielpicfobaa.Av
open Go Go.RowKit
def bys (s : ByteArray) : List Int := s.data.toList.map fun b => (b.toNat : Int)
section
variable {P : Program} {N : Nat} {w0 : World} {U0 : Nat → Nat}
end
end Go.Proofs.Ytipkielpicfobaa.Av

namespace Go.Proofs.Ytipkielpicfobaa.Av
open Go Go.RowKit
section
variable {P : Program} {N : Nat} {w0 : World} {U0 : Nat → Nat}
end
end Go.Proofs.Ytipkielpicfobaa.Av

namespace Go.Proofs.Ytipkielpicfobaa.Av
open Go Go.RowKit
theorem tD_ok {α : Type} {f : α → List DV} {l : List α} : ∀ r ∈ tD f l, ∀ c ∈ r, c.ok = true := by
  intro r hr c hc
  obtain ⟨y, hy, rfl⟩ := List.mem_map.1 hr
  obtain ⟨x, hx, rfl⟩ := List.mem_map.1 hc
  rfl
theorem tD_rd {α : Type} {f : α → List DV} {l : List α} : (tD f l).map (·.map OC.rd) = l.map f := by
  unfold tD
  rw [List.map_map, List.map_map]
  apply List.map_congr_left
  intro x _
  show ((f x).map OC.dv).map OC.rd = f x
  rw [List.map_map]
  exact List.map_id _
section
variable {P : Program} {N : Nat} {w0 : World} {U0 : Nat → Nat}
theorem imp_leakT {L : List (Nat × AV)} {M : List (Nat × Ob)} (t m : Nat) {e : TypeId} {z : Nat} {α : Type} {f : α → List DV} {l : List α} (ht : lk L t = .ow m) (hm : ln M m = .tr e z (tD f l)) : Imp N w0 U0 (SS L M) (SS ((t, .d (.sl z (l.map f))) :: L) ((m, .no) :: M)) :=
  imp_leakE t m ht hm tD_ok tD_rd
end
end Go.Proofs.Ytipkielpicfobaa.Av

namespace Go.Proofs.Ytipkielpicfobaa.Av
open Go Go.RowKit
def cI (k : IntKind) (x : Int) : DV := .fl (.int k x)
section
variable {P : Program} {N : Nat} {w0 : World} {U0 : Nat → Nat}
end
end Go.Proofs.Ytipkielpicfobaa.Av

namespace Go.Proofs.Ytipkielpicfobaa.Av
open Go Go.RowKit
def RresW (w : World) (U : Nat → Nat) (B : Nat) (v : Value) (e : TypeId) (z : Nat) (rows : List (List DV)) : Prop :=
  ∃ xs, w.ownsRow B e z v rows.length xs ∧ Rc w U xs rows.flatten ∧ (∀ r ∈ rows, r.length = z) ∧ ∀ b, v.ownBlock = some b → U b = rows.length * z
def CtrW (P : Program) (f : FuncId) (args : List DV) (e : TypeId) (z : Nat) (rows : List (List DV)) : Prop :=
  ∀ (vals : List Value) (U : Nat → Nat) (w : World), Rds w U vals args → Calls P f vals.toArray w fun ex w' => ∃ v U', ex = .returned v ∧ Below w.heap.size w w' ∧ (∀ b, b < w.heap.size → U' b = U b) ∧ RresW w' U' w.heap.size v e z rows
theorem RresO.leakW {w : World} {U : Nat → Nat} {B : Nat} {v : Value} {e : TypeId} {z : Nat} {rows : List (List OC)} (h : RresO w U B v (.tr e z rows)) (hok : ∀ r ∈ rows, ∀ c ∈ r, c.ok = true) : ∃ U', (∀ b, b < B → U' b = U b) ∧ RresW w U' B v e z (rows.map (·.map OC.rd)) := by
  obtain ⟨xs, T, g1, g2, g3, g4⟩ := h
  obtain ⟨U', hU'⟩ : ∃ U' : Nat → Nat, U' = fun b => if v.ownBlock = some b then rows.length * z else leakU U rows.flatten T b := ⟨_, rfl⟩
  have hUo : ∀ b, v.ownBlock = some b → U' b = rows.length * z := fun b hb => by rw [hU']; exact if_pos hb
  have hUT : ∀ k b c, T k b → rows.flatten[k]? = some c → U' b = c.len := fun k b c hk hc => by
    rw [hU']
    have hne : ¬ v.ownBlock = some b := fun hb => (g4 b hb).2 k hk
    show (if _ then _ else _) = _
    rw [if_neg hne]
    exact leakU_T g2.d hk hc
  have hUn : ∀ b, ¬ (v.ownBlock = some b ∨ ∃ k, T k b) → U' b = U b := fun b hb => by
    rw [hU']
    show (if _ then _ else _) = _
    rw [if_neg (fun h => hb (.inl h))]
    exact leakU_no (fun h => hb (.inr h))
  have hU0 : ∀ b, (v.ownBlock = some b ∨ ∃ k, T k b) → U b = 0 := fun b hb => by
    rcases hb with h | ⟨k, h⟩
    · exact (g4 b h).1
    · have hk := g2.b k b h
      have hl := g2.l
      have := g2.c k _ _ (List.getElem?_eq_getElem hk) (List.getElem?_eq_getElem (by omega))
      generalize rows.flatten[k]'(by omega) = c at this
      cases c with
      | un => exact absurd h (this b)
      | dv x => exact absurd h (this.2 b)
      | ow e2 z2 rows2 => obtain ⟨_, _, _, _, q4, q5⟩ := this; exact q5 b ((q4 b).1 h)
  have hE : Ext w U w U' := ⟨fun b o u hc ho' => ⟨hc, by
    by_cases hb : v.ownBlock = some b ∨ ∃ k, T k b
    · rw [hU0 b hb] at ho'; omega
    · rw [hUn b hb]; exact ho'⟩, fun r es c hr hu => ⟨rfl, hUn r (fun hb => by rw [hU0 r hb] at hu; omega)⟩⟩
  have hflat : (rows.map (·.map OC.rd)).flatten = rows.flatten.map OC.rd := by
    clear hok g3 g1 g2 g4 hUo hUT hUn hU'
    induction rows with
    | nil => rfl
    | cons r rows ih => simp only [List.map_cons, List.flatten_cons, List.map_append, ih]
  have hokf : ∀ c ∈ rows.flatten, c.ok = true := fun c hc => by
    obtain ⟨r, hr, hcr⟩ := List.mem_flatten.1 hc
    exact hok r hr c hcr
  have hrcl := g2.leak hokf hE hUT
  rw [← hflat] at hrcl
  refine ⟨U', fun b hb => hUn b (fun h => ?_), xs, by rw [List.length_map]; exact g1, hrcl, fun r hr => ?_, fun b hb => by rw [List.length_map]; exact hUo b hb⟩
  · rcases h with h | ⟨k, h⟩
    · have := (g1.lt b h).1; omega
    · have := (g2.lt h).1; omega
  · obtain ⟨r', h1, rfl⟩ := List.mem_map.1 hr
    simpa using g3 r' h1
theorem ctrW_of_O {P : Program} {f : FuncId} {args : List DV} {e : TypeId} {z : Nat} {rows : List (List OC)} {rows' : List (List DV)} (h : CtrO P f args (.tr e z rows)) (hok : ∀ r ∈ rows, ∀ c ∈ r, c.ok = true) (he : rows.map (·.map OC.rd) = rows') : CtrW P f args e z rows' := by
  subst he
  intro vals U w hR
  refine Calls.mono (h vals U w hR) ?_
  rintro ex w' ⟨v, U', rfl, h1, h2, h3⟩
  obtain ⟨U'', k1, k2⟩ := h3.leakW hok
  exact ⟨v, U'', rfl, h1, fun b hb => (k1 b hb).trans (h2 b hb), k2⟩
section
variable {P : Program} {N : Nat} {w0 : World} {U0 : Nat → Nat}
theorem op_callW {o : Oper} {σ : AS} {f : FuncId} {args : Array Operand} {ats : Array TypeId} (m : Nat) (ho : o.op = .call { callee := .value (.func f), args := args, argTypes := ats }) {fn : Func} (hf : P.funcs[f]? = some fn) (hn : (fn.name == "runtime.NumGoroutine") = false) (hb : fn.body.isNone = false)
    {ds : List DV} {rns : List Nat} {e : TypeId} {z : Nat} {rows : List (List DV)} (ha : ArgsS σ args.toList ds rns) (hc : CtrW P f ds e z rows) (hd : dOk o N = true) : OpS P N w0 U0 o σ ⟨o.dst.map fun d => (d, .ow m), (m, .ow e z rows) :: ([] : List Nat).map (fun q => (q, Ob.no)), rns, [m]⟩ := by
  intro σ' hok a w hs K Q hK
  obtain ⟨F, hF⟩ := hs.f
  have hR := ha.get hF hok.n (fun x hx => ev_ok hok (by simp [ho, Op.operands, Call.operands]; exact .inr (by simpa using hx)))
  have hcall := hc _ F.U w hR
  unfold Oper.wp
  have hex : (execOp a.eval o).run P w = .ok (.enter f (args.toList.map a.eval).toArray) w := by
    unfold execOp
    simp only [ho, resolve, Act.eval, Deferred.ofValue, invoke, Sem.run_bind, Sem.run_pure, Result.andThen_ok]
    have e1 : (#[] ++ Array.map a.eval args ++ #[] : Array Value) = (args.toList.map a.eval).toArray := by
      apply Array.ext'
      simp
    rw [e1]
    exact run_call hf hn hb _ w
  rw [hex, Oper.upon_enter]
  refine Calls.mono hcall ?_
  rintro ex w' ⟨v, U', rfl, h1, h2, xs, g1, g2, g3, g4⟩
  have hfr := hok.f m (by simp)
  have hE : Ext w F.U w' U' := (Up.mk h1.block h2 : Up w F.U w' U').ext
  have hfit := hF.make (m := m) (ob := .ow e z rows) (ks := []) (γv := v) (βv := none) (Sm := fun b => v.ownBlock = some b) (U' := U') (w' := w') (a' := a.put o.dst v) (tw := o.dst.map fun d => (d, .ow m)) hfr hE (fun b hb => h2 b (by have := hs.b.size; omega)) (fun k b _ _ _ hlt => ⟨h1.block b hlt, h2 b hlt⟩) (fun b hb => .inl (g1.lt b hb).1)
    ⟨xs, by simp only [↓reduceIte]; exact Rc.base g1 hs.b.size, g2, g3, fun b => by simp only [↓reduceIte], fun b hb => by simp only [↓reduceIte] at hb; exact g4 b hb⟩
    (hta_put hd hs.s (.ow m) _).1 (fun d v' h => by
      obtain ⟨rfl, h3⟩ := (hta_put hd hs.s (.ow m) v).2 d v' h
      rw [h3]; exact (if_pos rfl).symm) rns [m]
  exact hK _ _ ⟨by rw [put_defers]; exact hs.d, by rw [put_size]; exact hs.s, hs.b.trans (h1.mono hs.b.size), _, hfit⟩
end
end Go.Proofs.Ytipkielpicfobaa.Av

namespace Go.Proofs.Ytipkielpicfobaa.Av
open Go Go.RowKit
section
variable {P : Program} {N : Nat} {w0 : World} {U0 : Nat → Nat}
end
end Go.Proofs.Ytipkielpicfobaa.Av

namespace Go.Proofs.Ytipkielpicfobaa.Av
open Go Go.RowKit
theorem rd_len {w : World} {U : Nat → Nat} {v : Value} {z : Nat} {rows : List (List DV)} (h : Rd w U v (.sl z rows)) : rows.length ≤ 9223372036854775807 := by
  cases h with
  | sn A c => simp
  | sl b off n c _ _ u hn hzz hm hcell hrr => omega
theorem opens_len {P : Program} {t : TypeId} {z : Nat} {α : Type} {f : α → List DV} {ok : List α → Prop} (h : Opens P t (rL z f) ok) : Opens P t (rL z f) (fun l => l.length ≤ 9223372036854775807 ∧ ok l) := by
  intro H enc w base spare held fuel cs x hx
  obtain ⟨a, h1, h2⟩ := h H enc w base spare held fuel cs x hx
  refine ⟨a, h1, ?_, h2⟩
  have hl := h1.1.1
  have hc : ∃ u, cs = [u] := by
    match cs, hl with
    | [u], _ => exact ⟨u, rfl⟩
  obtain ⟨u, rfl⟩ := hc
  have := rd_len (h1.1.2 0 u _ rfl rfl)
  simpa using this
end Go.Proofs.Ytipkielpicfobaa.Av

namespace Go.Proofs.Ytipkielpicfobaa.Av
open Go Go.RowKit
section
variable {P : Program} {N : Nat} {w0 : World} {U0 : Nat → Nat}
structure ARd (P : Program) (N : Nat) (w0 : World) (U0 : Nat → Nat) (c : Code) (R : Exit → AS → Prop) (n : Nat) (σ : AS) : Prop where
  goR : ∀ (rd : Option Nat) (ds : List Deferred) a w, St N w0 U0 σ a w → ∀ Q, (∀ e σ' a' w', R e σ' → St N w0 U0 σ' a' w' → Q e (dfs a' ds) w') → Code.roundsIn (FnR rd) 0 P c Q n (dfs a ds) w
theorem ard_succ {n : Nat} {c : Code} {R : Exit → AS → Prop} {σ : AS} (h : A P N w0 U0 c (thenR (ARd P N w0 U0 c R n) R) σ) : ARd P N w0 U0 c R (n + 1) σ := by
  refine ⟨fun rd ds a w hs Q hQ => ?_⟩
  rw [roundsIn_succ]
  refine h.goR rd ds a w hs _ (fun e σ' a' w' hr hs' => ?_)
  cases e with
  | normal => exact ARd.goR hr rd ds a' w' hs' Q hQ
  | _ => exact hQ _ _ _ _ hr hs'
def sLt (s u : ByteArray) : Bool := Op.bytesLess s.toList u.toList
theorem b_slt (t : TypeId) (s u : ByteArray) (x y : Operand) (w : World) : (do eqGuard .lss t x y (.string s) (.string u); binOp .lss t (.string s) (.string u) : Sem Value).run P w = .ok (.bool (sLt s u)) w := by simp [eqGuard, binOp, Op.stringOp, sLt]
theorem b_sgt (t : TypeId) (s u : ByteArray) (x y : Operand) (w : World) : (do eqGuard .gtr t x y (.string s) (.string u); binOp .gtr t (.string s) (.string u) : Sem Value).run P w = .ok (.bool (!(sLt s u || sEq s u))) w := by simp [eqGuard, binOp, Op.stringOp, sLt, ← toList_sEq]
end
end Go.Proofs.Ytipkielpicfobaa.Av

namespace Go.Proofs.Ytipkielpicfobaa.Av
open Go Go.RowKit
section
variable {P : Program} {N : Nat} {w0 : World} {U0 : Nat → Nat}
theorem imp_btnil {L : List (Nat × AV)} {M : List (Nat × Ob)} (m k0 : Nat) (e : TypeId) (z : Nat) {ty : TypeId} {cs : List OC} (hm : ln M m = .bt ty cs) (hk : cs[k0]? = some (.dv (.fl (.slice none 0 0)))) : Imp N w0 U0 (SS L M) (SS L ((m, .bt ty (cs.set k0 (.ow e z []))) :: M)) := by
  intro a w hs
  obtain ⟨F, hF⟩ := hs.f
  have hob := hF.n m
  rw [show (SS L M).n m = _ from hm] at hob
  obtain ⟨b, vs, T, k1, k2, k3, k4, k5, k6, k7⟩ := hob
  refine ⟨hs.d, hs.s, hs.b, F, hF.u, hF.t, fun k => ?_, fun k k' b h1 h2 h3 h4 => ?_⟩
  · show Rob _ w F k (bif Nat.beq m k then _ else ln M k)
    by_cases e1 : m = k
    · subst e1
      rw [Nat.beq_refl]
      refine ⟨b, vs, T, k1, k2, k3, k4, ⟨by rw [List.length_set]; exact k5.l, fun j u c h1 h2 => ?_, k5.o, k5.d, k5.b⟩, k6, k7⟩
      by_cases ej : k0 = j
      · subst ej
        have hl : k0 < cs.length := by
          rcases Nat.lt_or_ge k0 cs.length with h | h
          · exact h
          · rw [List.getElem?_eq_none h] at hk; cases hk
        rw [List.getElem?_set_self hl] at h2
        injection h2 with h2
        subst h2
        obtain ⟨g1, g2⟩ := k5.c k0 u _ h1 hk
        have hu : u = .slice none 0 0 := by cases g1; rfl
        subst hu
        exact ⟨[], World.ownsRow_nil _ _ _ _, ⟨Rds.nil, fun v hv => by cases hv⟩, (fun r hr => by cases hr), fun b' => ⟨fun h => (g2 b' h).elim, fun h => by cases h⟩, fun b' h => by cases h⟩
      · rw [List.getElem?_set_ne ej] at h2
        exact k5.c j u c h1 h2
    · rw [nbeq e1]; exact hF.n k
  · have g : ∀ j, ((SS L ((m, .bt ty (cs.set k0 (.ow e z []))) :: M)).n j).live = true → ((SS L M).n j).live = true := fun j hj => by
      by_cases e1 : m = j
      · subst e1; show (ln M m).live = true; rw [hm]; rfl
      · have hj' : (bif Nat.beq m j then _ else ln M j : Ob).live = true := hj
        rw [nbeq e1] at hj'; exact hj'
    exact hF.i k k' b (g k h1) (g k' h2) h3 h4
theorem op_takeBt {o : Oper} {σ : AS} {t : TypeId} {x : Operand} (m3 : Nat) (ho : o.op = .load t x) {d : TypeDesc} (hu : P.underlying t = some d) (ha : aggD d = false) {m p : Nat} (hx : (σ.ev x).ptOf = some (m, p)) {ty : TypeId} {cs : List OC} (hm : σ.n m = .bt ty cs) {e2 z2 : Nat} {rows2 : List (List DV)} (hv : cs[p]? = some (.ow e2 z2 rows2)) (hne : Nat.beq m3 m = false) (hd : dOk o N = true) :
    OpS P N w0 U0 o σ ⟨o.dst.map fun d => (d, .ow m3), [(m3, .tr e2 z2 (rows2.map (·.map .dv))), (m, .bt ty (cs.take p ++ [.un] ++ cs.drop (p + 1)))], [m], [m3]⟩ := by
  intro σ' hok a w hs K Q hK
  obtain ⟨F, hF⟩ := hs.f
  obtain ⟨g', h1, h2⟩ := pt_get hok hF (x := x) (by simp [ho, Op.operands]) hx
  have hm' : σ'.n m = .bt ty cs := by rw [hok.n m (by simp)]; exact hm
  have hjl := (List.getElem?_eq_some_iff.1 hv).1
  obtain ⟨vs, T, kB, kU, k3, k8, kT, kS⟩ := bt_get hF hm' h1
  have hk : p < vs.toList.length := by rw [k8.l]; exact hjl
  obtain ⟨u, hu'⟩ : ∃ u, vs.toList[p]? = some u := ⟨_, List.getElem?_eq_getElem hk⟩
  have hc : w.cell? ⟨g', p, none⟩ = some u := by rw [cell_of_row w g' p vs ty (0, 0) k3]; simpa using hu'
  obtain ⟨ys, y1, y2, y3, y4, y5⟩ := k8.c _ u _ hu' hv
  have hfr : fresh σ' m3 := hok.f m3 (by simp)
  have hmm : m ≠ m3 := fun h => by rw [h, Nat.beq_refl] at hne; cases hne
  have hlive : (σ'.n m).live = true := by rw [hm']; rfl
  have hrun : (execOp a.eval o).run P w = .ok (.value u) w := by simp [execOp, ho, h2, Instr.loadAt, Instr.sureAddr, run_load_one hu ha hc]
  obtain ⟨F', hF'⟩ : ∃ F' : Fr, F' = ⟨fun k => if k = m3 then none else F.β k, fun k => if k = m3 then u else F.γ k, F.U, fun k b => if k = m3 then T p b else if k = m then (b = g' ∨ ∃ q, q ≠ p ∧ T q b) else F.S k b⟩ := ⟨_, rfl⟩
  have hβ3 : F'.γ m3 = u := by rw [hF']; exact if_pos rfl
  have hβm : F'.β m = some g' := by rw [hF']; exact (if_neg hmm).trans h1
  have hU : F'.U = F.U := by rw [hF']
  have hS3 : ∀ b, F'.S m3 b ↔ T p b := fun b => by rw [hF']; show (if m3 = m3 then _ else _) ↔ _; rw [if_pos rfl]
  have hSm : ∀ b, F'.S m b ↔ (b = g' ∨ ∃ q, q ≠ p ∧ T q b) := fun b => by rw [hF']; show (if m = m3 then _ else if m = m then _ else _) ↔ _; rw [if_neg hmm, if_pos rfl]
  have hSk : ∀ k, k ≠ m3 → k ≠ m → ∀ b, F'.S k b ↔ F.S k b := fun k a1 a2 b => by rw [hF']; show (if k = m3 then _ else if k = m then _ else _) ↔ _; rw [if_neg a1, if_neg a2]
  have hnw : ∀ k, nwGet [(m3, Ob.tr e2 z2 (rows2.map (·.map OC.dv))), (m, Ob.bt ty (cs.take p ++ [OC.un] ++ cs.drop (p + 1)))] k = if k = m3 then some (.tr e2 z2 (rows2.map (·.map OC.dv))) else if k = m then some (.bt ty (cs.take p ++ [OC.un] ++ cs.drop (p + 1))) else none := by
    intro k
    unfold nwGet
    by_cases a1 : k = m3
    · subst a1; rw [Nat.beq_refl, if_pos rfl]; rfl
    · rw [nbeq (Ne.symm a1), if_neg a1]
      unfold nwGet
      by_cases a2 : k = m
      · subst a2; rw [Nat.beq_refl, if_pos rfl]; rfl
      · rw [nbeq (Ne.symm a2), if_neg a2]; rfl
  have hsub : ∀ b, T p b → F.S m b := fun b hb => (kS b).2 (.inr ⟨_, hb⟩)
  have hb := hF.big (F' := F') (w' := w) (tw := o.dst.map fun d => (d, .ow m3)) (nw := [(m3, .tr e2 z2 (rows2.map (·.map .dv))), (m, .bt ty (cs.take p ++ [.un] ++ cs.drop (p + 1)))]) (by rw [hU]; exact Ext.rfl) (fun b _ => by rw [hU])
    (fun k hk => by
      rw [hnw] at hk
      have a1 : k ≠ m3 := fun h => by rw [if_pos h] at hk; cases hk
      rw [if_neg a1] at hk
      have a2 : k ≠ m := fun h => by rw [if_pos h] at hk; cases hk
      exact ⟨by rw [hF']; exact if_neg a1, by rw [hF']; exact if_neg a1, hSk k a1 a2⟩)
    (fun k hk => by
      rw [hnw] at hk
      by_cases a1 : k = m3
      · right; rw [a1]; exact hfr
      · left; exact ⟨by rw [hF']; exact if_neg a1, by rw [hF']; exact if_neg a1⟩)
    (fun k hl hk b hb hlt => ⟨rfl, by rw [hU]⟩)
    (fun k ob hk => by
      rw [hnw] at hk
      by_cases a1 : k = m3
      · rw [if_pos a1] at hk
        injection hk with hk
        subst hk a1
        refine ⟨ys, fun _ _ => False, by rw [hβ3, List.length_map]; exact y1, by rw [flat_map_dv, hU]; exact Tcs.ofRc y2, fun r' hr' => ?_, fun b hb => ⟨?_, fun _ => id⟩, fun b => ?_⟩
        · obtain ⟨r'', h3, rfl⟩ := List.mem_map.1 hr'
          simpa using y3 r'' h3
        · rw [hU]; rw [hβ3] at hb; exact y5 b hb
        · rw [hS3, hβ3, y4 b]
          exact ⟨.inl, fun h => h.elim id (fun ⟨_, h⟩ => h.elim)⟩
      · rw [if_neg a1] at hk
        by_cases a2 : k = m
        · rw [if_pos a2] at hk
          injection hk with hk
          subst hk a2
          refine ⟨g', vs, fun q b => q ≠ p ∧ T q b, hβm, kB, by rw [hU]; exact kU, k3, ?_, fun q h => kT q h.2, fun b => by rw [hSm]⟩
          rw [hU]
          have hcl := k8.l
          have hcs : ∀ q, (cs.take p ++ [OC.un] ++ cs.drop (p + 1))[q]? = if q = p then some .un else cs[q]? := by
            intro q
            rcases Nat.lt_trichotomy q p with hq | hq | hq
            · rw [if_neg (by omega), List.append_assoc, List.getElem?_append_left (by simp; omega), List.getElem?_take_of_lt hq]
            · subst hq
              rw [if_pos rfl, List.append_assoc, List.getElem?_append_right (by simp; omega)]
              simp
              rw [Nat.min_eq_left (by omega)]
              simp
            · rw [if_neg (by omega), List.getElem?_append_right (by simp; omega), List.getElem?_drop]
              congr 1
              simp
              omega
          refine ⟨by have := hcl; simp only [List.length_append, List.length_take, List.length_drop, List.length_singleton]; omega, fun q v c hv' hc' => ?_, k8.o, fun q q' b h1 h2 => k8.d q q' b h1.2 h2.2, fun q b h1 => k8.b q b h1.2⟩
          rw [hcs] at hc'
          by_cases hq : q = p
          · rw [if_pos hq] at hc'
            injection hc' with hc'
            subst hc'
            exact fun b hb => hb.1 hq
          · rw [if_neg hq] at hc'
            have := k8.c q v c hv' hc'
            have e1 : (fun b => q ≠ p ∧ T q b) = T q := by funext b; exact propext ⟨fun h => h.2, fun h => ⟨hq, h⟩⟩
            rw [e1]
            exact this
        · rw [if_neg a2] at hk; cases hk)
    (fun k ob k' b hk hl hk' hl' hb hb' => by
      have hS : F.S m b := by
        rw [hnw] at hk
        by_cases a1 : k = m3
        · subst a1; exact hsub b ((hS3 b).1 hb)
        · rw [if_neg a1] at hk
          by_cases a2 : k = m
          · subst a2
            rcases (hSm b).1 hb with h | ⟨q, _, h⟩
            · exact (kS b).2 (.inl h)
            · exact (kS b).2 (.inr ⟨q, h⟩)
          · rw [if_neg a2] at hk; cases hk
      have := hF.i m k' b hlive hl' hS hb'
      rw [hnw] at hk'
      subst this
      rw [if_neg hmm, if_pos rfl] at hk'
      cases hk')
    (fun k ob k' ob' b hk hl hk' hl' hb hb' => by
      rw [hnw] at hk hk'
      have no : ∀ b, T p b → (b = g' ∨ ∃ q, q ≠ p ∧ T q b) → False := fun b h3 h4 => by
        rcases h4 with h4 | ⟨q, h4, h5⟩
        · subst h4; exact kT _ h3
        · exact h4 (k8.d q _ b h5 h3)
      by_cases a1 : k = m3
      · by_cases a1' : k' = m3
        · rw [a1, a1']
        · rw [if_neg a1'] at hk'
          by_cases a2' : k' = m
          · subst a1 a2'; exact (no b ((hS3 b).1 hb) ((hSm b).1 hb')).elim
          · rw [if_neg a2'] at hk'; cases hk'
      · rw [if_neg a1] at hk
        by_cases a2 : k = m
        · by_cases a1' : k' = m3
          · subst a2 a1'; exact (no b ((hS3 b).1 hb') ((hSm b).1 hb)).elim
          · rw [if_neg a1'] at hk'
            by_cases a2' : k' = m
            · rw [a2, a2']
            · rw [if_neg a2'] at hk'; cases hk'
        · rw [if_neg a2] at hk; cases hk)
    (a' := a.put o.dst u) (hta_put hd hs.s (.ow m3) u).1 (fun d v h => by
      obtain ⟨rfl, h3⟩ := (hta_put hd hs.s (.ow m3) u).2 d v h
      rw [h3]
      exact hβ3.symm) [m] [m3]
  unfold Oper.wp
  rw [hrun]
  exact hK _ _ ⟨by rw [put_defers]; exact hs.d, by rw [put_size]; exact hs.s, hs.b, _, hb⟩
theorem imp_leakBt {L : List (Nat × AV)} {M : List (Nat × Ob)} (m : Nat) {ty : TypeId} {cs : List OC} {ds : List DV} (hm : ln M m = .bt ty cs) (hok : (cs.all OC.ok) = true) (he : cs.map OC.rd = ds) : Imp N w0 U0 (SS L M) (SS L ((m, .bx ty ds) :: M)) := by
  subst he
  intro a w hs
  obtain ⟨F, hF⟩ := hs.f
  have hob := hF.n m
  rw [show (SS L M).n m = _ from hm] at hob
  obtain ⟨b0, vs, T, k1, k2, k3, k4, k5, k6, k7⟩ := hob
  have hlive : ((SS L M).n m).live = true := by rw [show (SS L M).n m = _ from hm]; rfl
  obtain ⟨U', hU'⟩ : ∃ U' : Nat → Nat, U' = leakU F.U cs T := ⟨_, rfl⟩
  have hUT : ∀ k b c, T k b → cs[k]? = some c → U' b = c.len := fun k b c hk hc => by rw [hU']; exact leakU_T k5.d hk hc
  have hUn : ∀ b, ¬ (∃ k, T k b) → U' b = F.U b := fun b hb => by rw [hU']; exact leakU_no hb
  have hU0 : ∀ b, (∃ k, T k b) → F.U b = 0 := fun b ⟨k, h⟩ => by
    have hk := k5.b k b h
    have hl := k5.l
    have := k5.c k _ _ (List.getElem?_eq_getElem hk) (List.getElem?_eq_getElem (by omega))
    generalize cs[k]'(by omega) = c at this
    cases c with
    | un => exact absurd h (this b)
    | dv x => exact absurd h (this.2 b)
    | ow e2 z2 rows2 => obtain ⟨_, _, _, _, q4, q5⟩ := this; exact q5 b ((q4 b).1 h)
  have hE : Ext w F.U w U' := ⟨fun b o u hc ho' => ⟨hc, by
    by_cases hb : ∃ k, T k b
    · rw [hU0 b hb] at ho'; omega
    · rw [hUn b hb]; exact ho'⟩, fun r es c hr hu => ⟨rfl, hUn r (fun hb => by rw [hU0 r hb] at hu; omega)⟩⟩
  have hrc := k5.leak (fun c hc => List.all_eq_true.1 hok c hc) hE hUT
  have hb := hF.big (F' := ⟨F.β, F.γ, U', fun k x => if k = m then x = b0 else F.S k x⟩) (w' := w) (tw := none) (nw := [(m, .bx ty (cs.map OC.rd))]) hE
    (fun x hx => hUn x (fun h => by have := ((hF.n m).lt hlive ((k7 x).2 (.inr h))).1; omega))
    (fun k hk => ⟨rfl, rfl, fun x => by
      have hne : k ≠ m := fun e => by subst e; simp [nwGet] at hk
      show (if k = m then _ else _) ↔ _
      rw [if_neg hne]⟩)
    (fun k hk => .inl ⟨rfl, rfl⟩)
    (fun k hl hk x hx hxl => ⟨rfl, hUn x (fun h => by
      have := hF.i k m x hl hlive hx ((k7 x).2 (.inr h))
      subst this
      simp [nwGet] at hk)⟩)
    (fun k o hk => by
      rw [nw_one] at hk
      by_cases e : k = m
      · rw [if_pos e] at hk; injection hk with hk; subst hk e
        exact ⟨b0, vs, k1, k2, (hUn b0 (fun ⟨q, h⟩ => k6 q h)).trans k3, k4, hrc, fun b' => by show (if k = k then _ else _) ↔ _; rw [if_pos rfl]⟩
      · rw [if_neg e] at hk; cases hk)
    (fun k o k' x hk hl hk' hl' hx hx' => by
      rw [nw_one] at hk hk'
      by_cases e : k = m
      · have hx2 : (if k = m then x = b0 else F.S k x) := hx
        rw [if_pos e] at hx2
        subst hx2
        have := hF.i m k' x hlive hl' ((k7 x).2 (.inl rfl)) hx'
        rw [if_pos this.symm] at hk'; cases hk'
      · rw [if_neg e] at hk; cases hk)
    (fun k o k' o' x hk hl hk' hl' _ _ => by
      rw [nw_one] at hk hk'
      by_cases e : k = m
      · by_cases e' : k' = m
        · rw [e, e']
        · rw [if_neg e'] at hk'; cases hk'
      · rw [if_neg e] at hk; cases hk)
    (a' := a) (fun t' => rfl) (fun d v h => by cases h) [] []
  rw [ap_ss] at hb
  exact ⟨hs.d, hs.s, hs.b, _, hb⟩
end
end Go.Proofs.Ytipkielpicfobaa.Av

namespace Go.Proofs.Ytipkielpicfobaa.Av
open Go Go.RowKit ChangeMaps
section
variable {P : Program} {N : Nat} {w0 : World} {U0 : Nat → Nat}
end
end Go.Proofs.Ytipkielpicfobaa.Av

namespace Go.Proofs.Ytipkielpicfobaa.Av
open Go Go.RowKit Go.ChangeMaps
def mput (td : TypeDesc) (k : Value) (d : DV) : List (Value × DV) → List (Value × DV)
  | [] => [(k, d)]
  | x :: xs => match Instr.sameNow td k x.1 with
    | some true => (k, d) :: xs
    | _ => x :: mput td k d xs
section
variable {P : Program} {N : Nat} {w0 : World} {U0 : Nat → Nat}
end
end Go.Proofs.Ytipkielpicfobaa.Av
