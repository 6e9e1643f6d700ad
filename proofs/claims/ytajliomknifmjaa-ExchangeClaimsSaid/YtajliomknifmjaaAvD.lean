/- Rules for states of data. Conditions: as each theorem names them. -/
import Derived.Test.YtajliomknifmjaaAvC
import Derived.Laws.Shifts
import Derived.Laws.Unary
import Derived.Laws.Entries
import Derived.Lib.ConvBytes
import Derived.Lib.AppendStr
import Derived.Laws.IdiomCopy
import Derived.Laws.MakeOwn
import Derived.Laws.Slices
import Derived.LoopN
set_option linter.unusedSimpArgs false
set_option linter.unusedVariables false
namespace Go.Proofs.Ytajliomknifmjaa.Av
open Go Go.RowKit
section
variable {P : Program} (t : TypeId) (k yk : IntKind) (a b : Int) (x y : Operand) (w : World)
end
end Go.Proofs.Ytajliomknifmjaa.Av

namespace Go.Proofs.Ytajliomknifmjaa.Av
open Go Go.RowKit
section
variable {P : Program} {N : Nat} {w0 : World} {U0 : Nat → Nat}
end
end Go.Proofs.Ytajliomknifmjaa.Av

namespace Go.Proofs.Ytajliomknifmjaa.Av
open Go Go.RowKit
def CtrT (P : Program) (f : FuncId) (e : TypeId) (z : Nat) (rows : List (List OC)) (args : List DV) (rows' : List (List OC)) : Prop :=
  ∀ (v : Value) (vals : List Value) (U : Nat → Nat) (S0 : Nat → Prop) (w : World), Rob 0 w (thF none v U S0) 0 (.tr e z rows) → Rds w U vals args →
    Calls P f (v :: vals).toArray w fun ex w' => ∃ rv U' S', ex = .returned rv ∧ Below 0 (bare w) w' ∧ (∀ g, g < w.heap.size → ¬ S0 g → w'.heap[g]? = w.heap[g]? ∧ U' g = U g) ∧ (∀ g, S' g → S0 g ∨ w.heap.size ≤ g) ∧ Rob 0 w' (thF none rv U' S') 0 (.tr e z rows')
section
variable {P : Program} {N : Nat} {w0 : World} {U0 : Nat → Nat}
def retT (t : Nat) (e : TypeId) (z : Nat) (rows' : List (List OC)) (H : World) (V : Nat → Nat) (Q : Nat → Prop) : Exit → AS → Prop
  | .normal, σ | .ret, σ => ∃ m, m ≠ 1 ∧ σ.t t = .ow m ∧ σ.n m = .tr e z rows' ∧ σ.n 1 = .pin H V Q
  | _, _ => False
end
end Go.Proofs.Ytajliomknifmjaa.Av

namespace Go.Proofs.Ytajliomknifmjaa.Av
open Go Go.RowKit
def bys (s : ByteArray) : List Int := s.data.toList.map fun b => (b.toNat : Int)
section
variable {P : Program} {N : Nat} {w0 : World} {U0 : Nat → Nat}
end
end Go.Proofs.Ytajliomknifmjaa.Av

namespace Go.Proofs.Ytajliomknifmjaa.Av
open Go Go.RowKit
section
variable {P : Program} {N : Nat} {w0 : World} {U0 : Nat → Nat}
end
end Go.Proofs.Ytajliomknifmjaa.Av

namespace Go.Proofs.Ytajliomknifmjaa.Av
open Go Go.RowKit
theorem tD_ok {α : Type} {f : α → List DV} {l : List α} : ∀ r ∈ tD f l, ∀ c ∈ r, c.ok = true := by
  intro r hr c hc
  obtain ⟨y, hy, rfl⟩ := List.mem_map.1 hr
  obtain ⟨x, hx, rfl⟩ := List.mem_map.1 hc
  rfl
theorem tD_rd {α : Type} {f : α → List DV} {l : List α} : (tD f l).map (·.map OC.rd) = l.map f := by
  unfold tD
  rw [List.map_map, List.map_map]
  apply List.map_congr_left
  intro x _
  show ((f x).map OC.dv).map OC.rd = f x
  rw [List.map_map]
  exact List.map_id _
section
variable {P : Program} {N : Nat} {w0 : World} {U0 : Nat → Nat}
theorem imp_leakT {L : List (Nat × AV)} {M : List (Nat × Ob)} (t m : Nat) {e : TypeId} {z : Nat} {α : Type} {f : α → List DV} {l : List α} (ht : lk L t = .ow m) (hm : ln M m = .tr e z (tD f l)) : Imp N w0 U0 (SS L M) (SS ((t, .d (.sl z (l.map f))) :: L) ((m, .no) :: M)) :=
  imp_leakE t m ht hm tD_ok tD_rd
end
end Go.Proofs.Ytajliomknifmjaa.Av

namespace Go.Proofs.Ytajliomknifmjaa.Av
open Go Go.RowKit
def cI (k : IntKind) (x : Int) : DV := .fl (.int k x)
section
variable {P : Program} {N : Nat} {w0 : World} {U0 : Nat → Nat}
end
end Go.Proofs.Ytajliomknifmjaa.Av

namespace Go.Proofs.Ytajliomknifmjaa.Av
open Go Go.RowKit
def RresW (w : World) (U : Nat → Nat) (B : Nat) (v : Value) (e : TypeId) (z : Nat) (rows : List (List DV)) : Prop :=
  ∃ xs, w.ownsRow B e z v rows.length xs ∧ Rc w U xs rows.flatten ∧ (∀ r ∈ rows, r.length = z) ∧ ∀ b, v.ownBlock = some b → U b = rows.length * z
def CtrW (P : Program) (f : FuncId) (args : List DV) (e : TypeId) (z : Nat) (rows : List (List DV)) : Prop :=
  ∀ (vals : List Value) (U : Nat → Nat) (w : World), Rds w U vals args → Calls P f vals.toArray w fun ex w' => ∃ v U', ex = .returned v ∧ Below w.heap.size w w' ∧ (∀ b, b < w.heap.size → U' b = U b) ∧ RresW w' U' w.heap.size v e z rows
section
variable {P : Program} {N : Nat} {w0 : World} {U0 : Nat → Nat}
end
end Go.Proofs.Ytajliomknifmjaa.Av

namespace Go.Proofs.Ytajliomknifmjaa.Av
open Go Go.RowKit
section
variable {P : Program} {N : Nat} {w0 : World} {U0 : Nat → Nat}
end
end Go.Proofs.Ytajliomknifmjaa.Av

namespace Go.Proofs.Ytajliomknifmjaa.Av
open Go Go.RowKit
theorem rd_len {w : World} {U : Nat → Nat} {v : Value} {z : Nat} {rows : List (List DV)} (h : Rd w U v (.sl z rows)) : rows.length ≤ 9223372036854775807 := by
  cases h with
  | sn A c => simp
  | sl b off n c _ _ u hn hzz hm hcell hrr => omega
theorem opens_len {P : Program} {t : TypeId} {z : Nat} {α : Type} {f : α → List DV} {ok : List α → Prop} (h : Opens P t (rL z f) ok) : Opens P t (rL z f) (fun l => l.length ≤ 9223372036854775807 ∧ ok l) := by
  intro H enc w base spare held fuel cs x hx
  obtain ⟨a, h1, h2⟩ := h H enc w base spare held fuel cs x hx
  refine ⟨a, h1, ?_, h2⟩
  have hl := h1.1.1
  have hc : ∃ u, cs = [u] := by
    match cs, hl with
    | [u], _ => exact ⟨u, rfl⟩
  obtain ⟨u, rfl⟩ := hc
  have := rd_len (h1.1.2 0 u _ rfl rfl)
  simpa using this
end Go.Proofs.Ytajliomknifmjaa.Av

namespace Go.Proofs.Ytajliomknifmjaa.Av
open Go Go.RowKit
section
variable {P : Program} {N : Nat} {w0 : World} {U0 : Nat → Nat}
structure ARd (P : Program) (N : Nat) (w0 : World) (U0 : Nat → Nat) (c : Code) (R : Exit → AS → Prop) (n : Nat) (σ : AS) : Prop where
  go : ∀ a w, St N w0 U0 σ a w → ∀ Q, (∀ e σ' a' w', R e σ' → St N w0 U0 σ' a' w' → Q e a' w') → Code.rounds P c Q n a w
theorem ard_succ {n : Nat} {c : Code} {R : Exit → AS → Prop} {σ : AS} (h : A P N w0 U0 c (thenR (ARd P N w0 U0 c R n) R) σ) : ARd P N w0 U0 c R (n + 1) σ := by
  refine ⟨fun a w hs Q hQ => ?_⟩
  rw [rounds_succ]
  refine h.go a w hs _ (fun e σ' a' w' hr hs' => ?_)
  cases e with
  | normal => exact ARd.go hr a' w' hs' Q hQ
  | _ => exact hQ _ _ _ _ hr hs'
def sLt (s u : ByteArray) : Bool := Op.bytesLess s.toList u.toList
end
end Go.Proofs.Ytajliomknifmjaa.Av

namespace Go.Proofs.Ytajliomknifmjaa.Av
open Go Go.RowKit
section
variable {P : Program} {N : Nat} {w0 : World} {U0 : Nat → Nat}
end
end Go.Proofs.Ytajliomknifmjaa.Av

namespace Go.Proofs.Ytajliomknifmjaa.Av
open Go Go.RowKit ChangeMaps
section
variable {P : Program} {N : Nat} {w0 : World} {U0 : Nat → Nat}
end
end Go.Proofs.Ytajliomknifmjaa.Av

namespace Go.Proofs.Ytajliomknifmjaa.Av
open Go Go.RowKit Go.ChangeMaps
def mput (td : TypeDesc) (k : Value) (d : DV) : List (Value × DV) → List (Value × DV)
  | [] => [(k, d)]
  | x :: xs => match Instr.sameNow td k x.1 with
    | some true => (k, d) :: xs
    | _ => x :: mput td k d xs
theorem same_key {td : TypeDesc} {k v : Value} (h : Instr.sameNow td k v = some true) : k = v := sameNow_eq h
theorem ents_put {w : World} {U : Nat → Nat} {td : TypeDesc} {k u : Value} {d : DV} (hd : Rd w U u d) : ∀ (es : List MapEntry) (xs : List (Value × DV)) (i : Nat) {j : Nat} {v : Value}, Ents w U es xs → Instr.findNow td k es i = some (some (j, v)) →
    i ≤ j ∧ Ents w U (es.modify (j - i) fun e => { e with key := k, val := u }) (mput td k d xs)
  | [], xs, i, j, v, h, hf => by simp [Instr.findNow] at hf
  | e :: es, [], i, j, v, h, hf => by have := h.1; simp at this
  | e :: es, x :: xs, i, j, v, h, hf => by
    obtain ⟨h1, h2⟩ := h.2 0 e x rfl rfl
    have ht : Ents w U es xs := ⟨by have := h.1; simpa using this, fun j e x h3 h4 => h.2 (j + 1) e x (by simpa using h3) (by simpa using h4)⟩
    unfold Instr.findNow at hf
    rw [h1] at hf
    unfold mput
    cases hs : Instr.sameNow td k x.1 with
    | none => rw [hs] at hf; cases hf
    | some b =>
      rw [hs] at hf
      cases b with
      | true =>
        simp at hf
        obtain ⟨rfl, rfl⟩ := hf
        refine ⟨Nat.le_refl _, ?_⟩
        rw [Nat.sub_self]
        refine ⟨by simp [ht.1], fun q e' x' hq hx => ?_⟩
        cases q with
        | zero => simp at hq hx; subst hq hx; exact ⟨rfl, hd⟩
        | succ q => simp at hq hx; exact ht.2 q e' x' hq hx
      | false =>
        simp only at hf
        obtain ⟨g1, g2⟩ := ents_put hd es xs (i + 1) ht hf
        refine ⟨by omega, ?_⟩
        rw [show j - i = (j - (i + 1)) + 1 by omega]
        refine ⟨by simpa using g2.1, fun q e' x' hq hx => ?_⟩
        cases q with
        | zero => simp at hq hx; subst hq hx; exact ⟨h1, h2⟩
        | succ q => simp at hq hx; exact g2.2 q e' x' hq hx
section
variable {P : Program} {N : Nat} {w0 : World} {U0 : Nat → Nat}
theorem op_mapSet {o : Oper} {σ : AS} {t : TypeId} {x y z : Operand} (ho : o.op = .mapUpdate t x y z) (hdn : o.dst = none) {kt et : TypeId} (ht : P.underlying t = some (.map kt et)) {td : TypeDesc} (hk : P.underlying kt = some td) (htd : keyTd td = true)
    {m : Nat} {xs : List (Value × DV)} (hx : σ.ev x = .ow m) (hm : σ.n m = .mp xs) {k : Value} (hy : σ.ev y = .d (.fl k)) {d0 : DV} (hr : mfind td k xs = some (some d0)) {d : DV} (hz : σ.ev z = .d d)
    (hstay : ∀ w : World, (Instr.keyThatStays k k).run P w = .ok k w) :
    OpS P N w0 U0 o σ ⟨none, [(m, .mp (mput td k d xs))], [m], []⟩ := by
  intro σ' hok a w hs K Q hK
  obtain ⟨F, hF⟩ := hs.f
  have hv : a.eval x = F.γ m := ev_get hok hF (x := x) (by simp [ho, Op.operands]) hx
  have hkv : a.eval y = k := flat_val (ev_get hok hF (x := y) (by simp [ho, Op.operands]) hy)
  have hvz : Rd w F.U (a.eval z) d := ev_get hok hF (x := z) (by simp [ho, Op.operands]) hz
  have hm' : σ'.n m = .mp xs := by rw [hok.n m (by simp)]; exact hm
  have hn := hF.n m
  rw [hm'] at hn
  obtain ⟨b, es, c, h1, h2, h3, h4, h5, h6, hst⟩ := hn
  have hlt : b < w.heap.size := (Array.getElem?_eq_some_iff.1 h4).1
  obtain ⟨_, g2⟩ := find_ents es.toList xs 0 h5 _ hr
  obtain ⟨j, u, g3, g4⟩ := g2 _ rfl
  obtain ⟨e, _, g5, g6, g7⟩ := find_at es.toList 0 g3
  have g5 : es[j]? = some e := by simpa using g5
  have g8 : k = e.key := same_key g7
  obtain ⟨_, hput⟩ := ents_put (k := k) hvz es.toList xs 0 h5 g3
  rw [Nat.sub_zero] at hput
  have hrun : (execOp a.eval o).run P w = .ok .skip (setBlock w b (.map (es.modify j fun e => { e with key := k, val := a.eval z }) c)) := by
    simp [execOp, ho, hv, h1, hkv, Instr.mapUpdate, run_underlying ht, MapKept.run_getObj_map h4, run_checkKey' hk htd, run_findKey' hk g3, g5, ← g8, hstay, MapKept.run_setObj_map _ h4, Result.andThen, setBlock]
  have hE := ext_setBlock (w := w) (Obj.map (es.modify j fun e => { e with key := k, val := a.eval z }) c) h3
  have hents : Ents (setBlock w b (.map (es.modify j fun e => { e with key := k, val := a.eval z }) c)) F.U (es.modify j fun e => { e with key := k, val := a.eval z }).toList (mput td k d xs) := by
    rw [Array.toList_modify]
    exact hput.ext hE
  have hfit := hF.setobj (a' := a) (m := m) (b := b) (by rw [hm']; rfl) h6 h3 (obj := .map (es.modify j fun e => { e with key := k, val := a.eval z }) c) (ob := .mp (mput td k d xs)) ⟨b, _, _, h1, h2, h3, setBlock_same _ hlt, hents, h6, MapKept.stamped_modify hst j _ (fun _ _ => rfl) (fun e' _ he' => by rw [he'] at g5; cases g5; exact g8)⟩
    (tw := none) (fun _ => rfl) (fun _ _ h => by cases h) [m]
  unfold Oper.wp
  rw [hrun]
  have : a.put o.dst undef = a := by rw [hdn]; rfl
  unfold Oper.upon
  simp only [this]
  exact hK _ _ ⟨hs.d, hs.s, below_setBlock hs.b h2 _, _, hfit⟩
theorem stays_str (s : ByteArray) (w : World) : (Instr.keyThatStays (.string s) (.string s)).run P w = .ok (.string s) w := by
  simp [Instr.keyThatStays, Instr.sameBits, (MapKept.bytes_beq s s).2 rfl, Result.andThen]
end
end Go.Proofs.Ytajliomknifmjaa.Av
