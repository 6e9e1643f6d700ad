/- Rules for states of data. Conditions: as each theorem names them. -/
import Derived.Test.YtldglchpaookiaaDoorAvC
import Derived.Laws.Shifts
import Derived.Laws.Unary
import Derived.Laws.Entries
import Derived.Lib.ConvBytes
import Derived.Lib.AppendStr
import Derived.Laws.IdiomCopy
import Derived.Laws.MakeOwn
import Derived.Laws.Slices
import Derived.LoopN
set_option linter.unusedSimpArgs false
set_option linter.unusedVariables false
namespace Go.Proofs.YtldglchpaookiaaDoor.Av
open Go Go.RowKit
section
variable {P : Program} (t : TypeId) (k yk : IntKind) (a b : Int) (x y : Operand) (w : World)
end
end Go.Proofs.YtldglchpaookiaaDoor.Av

namespace Go.Proofs.YtldglchpaookiaaDoor.Av
open Go Go.RowKit
section
variable {P : Program} {N : Nat} {w0 : World} {U0 : Nat → Nat}
end
end Go.Proofs.YtldglchpaookiaaDoor.Av

namespace Go.Proofs.YtldglchpaookiaaDoor.Av
open Go Go.RowKit
def CtrT (P : Program) (f : FuncId) (e : TypeId) (z : Nat) (rows : List (List OC)) (args : List DV) (rows' : List (List OC)) : Prop :=
  ∀ (v : Value) (vals : List Value) (U : Nat → Nat) (S0 : Nat → Prop) (w : World), Rob 0 w (thF none v U S0) 0 (.tr e z rows) → Rds w U vals args →
    Calls P f (v :: vals).toArray w fun ex w' => ∃ rv U' S', ex = .returned rv ∧ Below 0 (bare w) w' ∧ (∀ g, g < w.heap.size → ¬ S0 g → w'.heap[g]? = w.heap[g]? ∧ U' g = U g) ∧ (∀ g, S' g → S0 g ∨ w.heap.size ≤ g) ∧ Rob 0 w' (thF none rv U' S') 0 (.tr e z rows')
section
variable {P : Program} {N : Nat} {w0 : World} {U0 : Nat → Nat}
def retT (t : Nat) (e : TypeId) (z : Nat) (rows' : List (List OC)) (H : World) (V : Nat → Nat) (Q : Nat → Prop) : Exit → AS → Prop
  | .normal, σ | .ret, σ => ∃ m, m ≠ 1 ∧ σ.t t = .ow m ∧ σ.n m = .tr e z rows' ∧ σ.n 1 = .pin H V Q
  | _, _ => False
end
end Go.Proofs.YtldglchpaookiaaDoor.Av

namespace Go.Proofs.YtldglchpaookiaaDoor.Av
open Go Go.RowKit
def bys (s : ByteArray) : List Int := s.data.toList.map fun b => (b.toNat : Int)
theorem rI_flat (k : IntKind) : ∀ l : List Int, (l.map (rI k)).flatten = l.map fun x => DV.fl (.int k x)
  | [] => rfl
  | a :: l => by
    show [DV.fl (.int k a)] ++ (l.map (rI k)).flatten = _
    rw [rI_flat k l]; rfl
theorem rc_ints {w : World} {U : Nat → Nat} (k : IntKind) (L : List Int) : Rc w U (L.map fun x => Value.int k x) (L.map fun x => DV.fl (.int k x)) := by
  refine ⟨⟨by simp, fun j u d hu hdv => ?_⟩, fun u hu => ?_⟩
  · simp only [List.getElem?_map, Option.map_eq_some_iff] at hu hdv
    obtain ⟨z, hz, rfl⟩ := hu
    obtain ⟨z', hz', rfl⟩ := hdv
    rw [hz] at hz'; cases hz'
    exact .fl _
  · obtain ⟨z, _, rfl⟩ := List.mem_map.1 hu; rfl
section
variable {P : Program} {N : Nat} {w0 : World} {U0 : Nat → Nat}
theorem op_rowNew {o : Oper} {σ : AS} {e : TypeId} (m : Nat) {rows : List (List DV)} {z : Nat} {rn : List Nat} (hd : dOk o N = true) (hz : ∀ r ∈ rows, r.length = z)
    (h : ∀ σ', (⟨o.dst.map fun d => (d, .ow m), (m, .tr e z (rows.map (·.map .dv))) :: ([] : List Nat).map (fun q => (q, Ob.no)), rn, [m]⟩ : Eff).ok o σ σ' → ∀ a w F, Fits w0 U0 σ' a w F → w0.heap.size ≤ w.heap.size →
      ∃ c cur, (execOp a.eval o).run P w = .ok (.value (.slice (some ⟨w.heap.size, 0, none⟩) rows.length c)) (w.alloc (.cells cur e)) ∧ rows.length ≤ c ∧ c ≤ maxLen ∧ cur.size = c * z ∧ Rc w F.U (cur.toList.take (rows.length * z)) rows.flatten) :
    OpS P N w0 U0 o σ ⟨o.dst.map fun d => (d, .ow m), (m, .tr e z (rows.map (·.map .dv))) :: ([] : List Nat).map (fun q => (q, Ob.no)), rn, [m]⟩ := by
  intro σ' hok a w hst K Q hK
  obtain ⟨F, hF⟩ := hst.f
  obtain ⟨c, cur, hex, h1, h2, h3, h4⟩ := h σ' hok a w F hF hst.b.size
  unfold Oper.wp
  rw [hex]
  have hU2 : ∀ b, b < w.heap.size → (fun b => if b = w.heap.size then 0 else F.U b) b = F.U b := fun b hb => by simp; intro h; omega
  have hE : Ext w F.U (w.alloc (.cells cur e)) (fun b => if b = w.heap.size then 0 else F.U b) := Up.ext ⟨fun b hlt => Below.heap_alloc w _ b hlt, hU2⟩
  have hlen : (rows.map (·.map OC.dv)).length = rows.length := by simp
  have hxl : (cur.toList.take (rows.length * z)).length = rows.length * z := by
    have := Nat.mul_le_mul_right z h1
    simp; omega
  have hfit := hF.make (m := m) (ob := .tr e z (rows.map (·.map .dv))) (ks := []) (γv := .slice (some ⟨w.heap.size, 0, none⟩) rows.length c) (βv := none) (Sm := fun b => b = w.heap.size) (U' := fun b => if b = w.heap.size then 0 else F.U b) (w' := w.alloc (.cells cur e)) (a' := a.put o.dst (.slice (some ⟨w.heap.size, 0, none⟩) rows.length c)) (tw := o.dst.map fun d => (d, .ow m)) (hok.f m (by simp)) hE (fun b hb => hU2 b (by have := hst.b.size; omega)) (fun k b _ _ _ hlt => ⟨Below.heap_alloc w _ b hlt, hU2 b hlt⟩) (fun b h => .inl (by omega))
    ⟨cur.toList.take (rows.length * z), fun _ _ => False, by
      simp only [↓reduceIte, hlen]
      exact ⟨hxl, .inr ⟨w.heap.size, c, cur, rfl, hst.b.size, Go.heap_alloc_new w _, h1, h2, h3, rfl⟩⟩, by rw [flat_map_dv]; exact Tcs.ofRc (h4.ext hE), (fun r hr => by
      obtain ⟨r', h5, rfl⟩ := List.mem_map.1 hr
      simpa using hz r' h5), fun b hb => by
      simp only [↓reduceIte] at hb
      injection hb with hb
      subst hb
      exact ⟨by simp, fun _ h => h⟩, fun b => by
      simp only [↓reduceIte]
      constructor
      · intro h; exact .inl (by rw [h]; rfl)
      · rintro (h | ⟨_, h⟩)
        · injection h with h; exact h.symm
        · exact h.elim⟩
    (hta_put hd hst.s (.ow m) _).1 (fun d v h => by
      obtain ⟨rfl, h3⟩ := (hta_put hd hst.s (.ow m) (.slice (some ⟨w.heap.size, 0, none⟩) rows.length c)).2 d v h
      rw [h3]; exact (if_pos rfl).symm) rn [m]
  exact hK _ _ ⟨by rw [put_defers]; exact hst.d, by rw [put_size]; exact hst.s, hst.b.alloc hst.b.size _, _, hfit⟩
theorem size_madeCells' (z : Array Value) (n : Nat) : (madeCells z n).size = n := by simp [madeCells]
theorem op_makeI {o : Oper} {σ : AS} {t : TypeId} {x y : Operand} (m : Nat) (ho : o.op = .makeSlice t x y) {e : TypeId} {k : IntKind} {b : Nat} (ht : P.underlying t = some (.slice e)) (hi : TI P e (.int k 0) 1 b) {k1 k2 : IntKind} {l c : Int} {n : Nat} (hx : σ.ev x = .d (.fl (.int k1 l))) (hy : σ.ev y = .d (.fl (.int k2 c))) (hn : l = (n : Int)) (h0 : l ≤ c) (hc : c ≤ 8796093022208) (hcb : (b : Int) * c ≤ 281474976710656) (hd : dOk o N = true) :
    OpS P N w0 U0 o σ ⟨o.dst.map fun d => (d, .ow m), (m, .tr e 1 (tD (rI k) (List.replicate n 0))) :: ([] : List Nat).map (fun q => (q, Ob.no)), [], [m]⟩ := by
  obtain ⟨i, i1, i2, i3, i4⟩ := hi
  subst i4
  subst hn
  have hlen : ((List.replicate n (0 : Int)).map (rI k)).length = n := by simp
  refine op_rowNew (rows := (List.replicate n (0 : Int)).map (rI k)) m hd (fun r hr => by
    obtain ⟨x, _, rfl⟩ := List.mem_map.1 hr; rfl) fun σ' hok a w F hF hs => ?_
  have h1 := flat_val (ev_get hok hF (x := x) (by simp [ho, Op.operands]) hx)
  have h2 := flat_val (ev_get hok hF (x := y) (by simp [ho, Op.operands]) hy)
  have hr := run_make (P := P) w t e i (.int k 0) ht i1 i2 k1 k2 (n : Int) c (by omega) h0 hcb (by omega)
  rw [hlen]
  refine ⟨c.toNat, madeCells (Value.int k 0).cells (c.toNat * i.size), ?_, by omega, by unfold maxLen; omega, by rw [size_madeCells', i3], ?_⟩
  · unfold execOp
    simp only [ho, h1, h2, Sem.run_bind, hr, Result.andThen_ok, Sem.run_pure]
    rfl
  · rw [rI_flat]
    have e1 : (madeCells (Value.int k 0).cells (c.toNat * i.size)).toList.take (n * 1) = (List.replicate n (0 : Int)).map fun x => Value.int k x := by
      apply List.ext_getElem?
      intro j
      rcases Nat.lt_or_ge j n with hj | hj
      · rw [List.getElem?_take_of_lt (by omega)]
        have hj' : j < c.toNat * i.size := by rw [i3]; omega
        simp [madeCells, hj, hj', Nat.mod_one, Value.cells]
      · rw [List.getElem?_eq_none (by simp [madeCells]; omega), List.getElem?_eq_none (by simp; exact hj)]
    rw [e1]
    exact rc_ints k _
end
end Go.Proofs.YtldglchpaookiaaDoor.Av

namespace Go.Proofs.YtldglchpaookiaaDoor.Av
open Go Go.RowKit
section
variable {P : Program} {N : Nat} {w0 : World} {U0 : Nat → Nat}
end
end Go.Proofs.YtldglchpaookiaaDoor.Av

namespace Go.Proofs.YtldglchpaookiaaDoor.Av
open Go Go.RowKit
section
variable {P : Program} {N : Nat} {w0 : World} {U0 : Nat → Nat}
theorem u_neg64 (a : Int) (w : World) (h : -9223372036854775807 ≤ a ∧ a ≤ 9223372036854775807) : (Op.unary .neg (.int .i64 a)).run P w = .ok (.int .i64 (-a)) w := by
  have e : IntKind.i64.wrap (-a) = -a := by rw [IntKind.wrap_i64]; omega
  have e2 : IntKind.i64.wrap (0 - a) = -a := by rw [Int.zero_sub]; exact e
  simp [Op.unary, Op.intArith, e, e2]
end
end Go.Proofs.YtldglchpaookiaaDoor.Av

namespace Go.Proofs.YtldglchpaookiaaDoor.Av
open Go Go.RowKit
def cI (k : IntKind) (x : Int) : DV := .fl (.int k x)
section
variable {P : Program} {N : Nat} {w0 : World} {U0 : Nat → Nat}
end
end Go.Proofs.YtldglchpaookiaaDoor.Av

namespace Go.Proofs.YtldglchpaookiaaDoor.Av
open Go Go.RowKit
def RresW (w : World) (U : Nat → Nat) (B : Nat) (v : Value) (e : TypeId) (z : Nat) (rows : List (List DV)) : Prop :=
  ∃ xs, w.ownsRow B e z v rows.length xs ∧ Rc w U xs rows.flatten ∧ (∀ r ∈ rows, r.length = z) ∧ ∀ b, v.ownBlock = some b → U b = rows.length * z
def CtrW (P : Program) (f : FuncId) (args : List DV) (e : TypeId) (z : Nat) (rows : List (List DV)) : Prop :=
  ∀ (vals : List Value) (U : Nat → Nat) (w : World), Rds w U vals args → Calls P f vals.toArray w fun ex w' => ∃ v U', ex = .returned v ∧ Below w.heap.size w w' ∧ (∀ b, b < w.heap.size → U' b = U b) ∧ RresW w' U' w.heap.size v e z rows
section
variable {P : Program} {N : Nat} {w0 : World} {U0 : Nat → Nat}
end
end Go.Proofs.YtldglchpaookiaaDoor.Av

namespace Go.Proofs.YtldglchpaookiaaDoor.Av
open Go Go.RowKit
section
variable {P : Program} {N : Nat} {w0 : World} {U0 : Nat → Nat}
theorem op_sliceB {o : Oper} {σ : AS} {t : TypeId} {n : Nat} {parts : Array (Nat × Operand)} (m : Nat) (ho : o.op = .buildSlice t n parts) {e : TypeId} {z : Value} {s b : Nat} (ht : P.underlying t = some (.slice e)) (hi : TI P e z s b) (hz : Nat.beq z.cells.size s = true) (hz0 : Nat.blt 0 s = true) (hz1 : Nat.ble (n * s) 16777216 = true) (h1 : (z.cells.all fun u => u.oneCell') = true)
    {xs : List DV} {rns : List Nat} (hxn : Nat.beq xs.length n = true) (hxl : (xs.all fun x => Nat.beq (dvCells x).length s) = true) (hp : PtsS σ (fun i => some (i * s, s)) (n * s) parts.toList ((xs.zipIdx 0).map fun p => (p.2 * s, p.1)) rns) (hd : dOk o N = true) : OpS P N w0 U0 o σ ⟨o.dst.map fun d => (d, .ow m), (m, .tr e s ((xs.map dvCells).map (·.map .dv))) :: ([] : List Nat).map (fun q => (q, Ob.no)), rns, [m]⟩ := by
  have hzs := Nat.eq_of_beq_eq_true hz
  have hz0' := Nat.le_of_ble_eq_true hz0
  have hz1' := Nat.le_of_ble_eq_true hz1
  have hxn' := Nat.eq_of_beq_eq_true hxn
  have hxl0 : ∀ x ∈ xs, (dvCells x).length = s := fun x hx => Nat.eq_of_beq_eq_true (List.all_eq_true.1 hxl x hx)
  refine op_rowNew (rows := xs.map dvCells) m hd (fun r hr => by
    obtain ⟨x, hx, rfl⟩ := List.mem_map.1 hr
    exact hxl0 x hx) fun σ' hok a w F hF hs => ?_
  obtain ⟨i, g1, g2, g3, g4⟩ := hi
  subst g3
  have hpts := hp.get hF hok.n (fun p hp' => ev_ok hok (by simp only [ho, Op.operands]; simpa using ⟨p.1, by simpa using hp'⟩))
  obtain ⟨zs, hzz⟩ : ∃ zs : Array Value, zs = ((Array.range (n * i.size)).map fun k => z.cells[k % z.cells.size]!) := ⟨_, rfl⟩
  have hzsz : zs.size = n * i.size := by rw [hzz]; simp
  have hone : ∀ u ∈ zs.toList, u.oneCell' = true := by
    intro u hu
    rw [hzz] at hu
    simp only [Array.toList_map, List.mem_map] at hu
    obtain ⟨k, hk, rfl⟩ := hu
    have hkl : k % z.cells.size < z.cells.size := Nat.mod_lt _ (by omega)
    rw [getElem!_pos z.cells (k % z.cells.size) hkl]
    exact Array.all_eq_true_iff_forall_mem.1 h1 _ (Array.getElem_mem hkl)
  have hrc : Rc w F.U zs.toList (zs.toList.map .fl) := ⟨⟨by simp, fun j u x hu hx => by
    rw [List.getElem?_map, hu] at hx
    simp at hx
    subst hx
    exact .fl u⟩, hone⟩
  obtain ⟨cells', e1, e2, e3⟩ := fill_rc hpts zs (zs.toList.map .fl) hzsz hrc
  have hspl := spl_dense (z := i.size) xs 0 [] (zs.toList.map .fl) hxl0 (by simp) (by simp [hzsz, hxn'])
  simp only [List.nil_append] at hspl
  rw [hspl] at e3
  have hlen : (xs.map dvCells).length = n := by simp [hxn']
  have hle : n ≤ n * i.size := Nat.le_mul_of_pos_right n hz0'
  rw [hlen]
  refine ⟨n, cells', ?_, Nat.le_refl _, by unfold maxLen; omega, e2, ?_⟩
  · have hbig : ¬ (n * i.size > 2 ^ 24) := by omega
    have hzv' : ∀ w : World, (zeroValue e).run P w = .ok z w := fun w => by simp [zeroValue, typeInfo, g1, g2]
    have hnr : (newRow e cells').run P w = .ok ⟨w.heap.size, 0, none⟩ (w.alloc (.cells cells' e)) := by simp [newRow, newObj, Sem.run]
    have e1' : Instr.fill (fun j => some (j * i.size, i.size)) zs ((parts.map fun x => match x with | (i, x) => (i, a.eval x)).toList) = some cells' := by
      rw [Array.toList_map]; exact e1
    unfold execOp
    by_cases hn0 : n * i.size = 0
    · have hzs0 : ((Array.range (n * i.size)).map fun k => (#[] : Array Value)[k % (#[] : Array Value).size]!) = zs := by
        apply Array.ext'
        rw [hn0] at hzsz
        have : zs.toList = [] := by simpa using hzsz
        rw [this, hn0]
        simp
      simp only [ho, Instr.buildSlice, Sem.run_bind, run_underlying ht, Result.andThen_ok, run_sizeOf' g1, if_neg hbig, if_pos hn0, Sem.run_pure, hzs0, e1', hnr]
    · simp only [ho, Instr.buildSlice, Sem.run_bind, run_underlying ht, Result.andThen_ok, run_sizeOf' g1, if_neg hbig, if_neg hn0, Sem.run_pure, hzv', ← hzz, e1', hnr]
  · have : cells'.toList.take (n * i.size) = cells'.toList := List.take_of_length_le (by simp; omega)
    rw [this]
    exact e3
end
end Go.Proofs.YtldglchpaookiaaDoor.Av

namespace Go.Proofs.YtldglchpaookiaaDoor.Av
open Go Go.RowKit
theorem rd_len {w : World} {U : Nat → Nat} {v : Value} {z : Nat} {rows : List (List DV)} (h : Rd w U v (.sl z rows)) : rows.length ≤ 9223372036854775807 := by
  cases h with
  | sn A c => simp
  | sl b off n c _ _ u hn hzz hm hcell hrr => omega
theorem opens_len {P : Program} {t : TypeId} {z : Nat} {α : Type} {f : α → List DV} {ok : List α → Prop} (h : Opens P t (rL z f) ok) : Opens P t (rL z f) (fun l => l.length ≤ 9223372036854775807 ∧ ok l) := by
  intro H enc w base spare held fuel cs x hx
  obtain ⟨a, h1, h2⟩ := h H enc w base spare held fuel cs x hx
  refine ⟨a, h1, ?_, h2⟩
  have hl := h1.1.1
  have hc : ∃ u, cs = [u] := by
    match cs, hl with
    | [u], _ => exact ⟨u, rfl⟩
  obtain ⟨u, rfl⟩ := hc
  have := rd_len (h1.1.2 0 u _ rfl rfl)
  simpa using this
end Go.Proofs.YtldglchpaookiaaDoor.Av

namespace Go.Proofs.YtldglchpaookiaaDoor.Av
open Go Go.RowKit
section
variable {P : Program} {N : Nat} {w0 : World} {U0 : Nat → Nat}
structure ARd (P : Program) (N : Nat) (w0 : World) (U0 : Nat → Nat) (c : Code) (R : Exit → AS → Prop) (n : Nat) (σ : AS) : Prop where
  go : ∀ a w, St N w0 U0 σ a w → ∀ Q, (∀ e σ' a' w', R e σ' → St N w0 U0 σ' a' w' → Q e a' w') → Code.rounds P c Q n a w
theorem ard_succ {n : Nat} {c : Code} {R : Exit → AS → Prop} {σ : AS} (h : A P N w0 U0 c (thenR (ARd P N w0 U0 c R n) R) σ) : ARd P N w0 U0 c R (n + 1) σ := by
  refine ⟨fun a w hs Q hQ => ?_⟩
  rw [rounds_succ]
  refine h.go a w hs _ (fun e σ' a' w' hr hs' => ?_)
  cases e with
  | normal => exact ARd.go hr a' w' hs' Q hQ
  | _ => exact hQ _ _ _ _ hr hs'
def sLt (s u : ByteArray) : Bool := Op.bytesLess s.toList u.toList
end
end Go.Proofs.YtldglchpaookiaaDoor.Av

namespace Go.Proofs.YtldglchpaookiaaDoor.Av
open Go Go.RowKit
section
variable {P : Program} {N : Nat} {w0 : World} {U0 : Nat → Nat}
end
end Go.Proofs.YtldglchpaookiaaDoor.Av

namespace Go.Proofs.YtldglchpaookiaaDoor.Av
open Go Go.RowKit ChangeMaps
section
variable {P : Program} {N : Nat} {w0 : World} {U0 : Nat → Nat}
end
end Go.Proofs.YtldglchpaookiaaDoor.Av

namespace Go.Proofs.YtldglchpaookiaaDoor.Av
open Go Go.RowKit Go.ChangeMaps
def mput (td : TypeDesc) (k : Value) (d : DV) : List (Value × DV) → List (Value × DV)
  | [] => [(k, d)]
  | x :: xs => match Instr.sameNow td k x.1 with
    | some true => (k, d) :: xs
    | _ => x :: mput td k d xs
theorem same_key {td : TypeDesc} {k v : Value} (h : Instr.sameNow td k v = some true) : k = v := sameNow_eq h
theorem ents_put {w : World} {U : Nat → Nat} {td : TypeDesc} {k u : Value} {d : DV} (hd : Rd w U u d) : ∀ (es : List MapEntry) (xs : List (Value × DV)) (i : Nat) {j : Nat} {v : Value}, Ents w U es xs → Instr.findNow td k es i = some (some (j, v)) →
    i ≤ j ∧ Ents w U (es.modify (j - i) fun e => { e with key := k, val := u }) (mput td k d xs)
  | [], xs, i, j, v, h, hf => by simp [Instr.findNow] at hf
  | e :: es, [], i, j, v, h, hf => by have := h.1; simp at this
  | e :: es, x :: xs, i, j, v, h, hf => by
    obtain ⟨h1, h2⟩ := h.2 0 e x rfl rfl
    have ht : Ents w U es xs := ⟨by have := h.1; simpa using this, fun j e x h3 h4 => h.2 (j + 1) e x (by simpa using h3) (by simpa using h4)⟩
    unfold Instr.findNow at hf
    rw [h1] at hf
    unfold mput
    cases hs : Instr.sameNow td k x.1 with
    | none => rw [hs] at hf; cases hf
    | some b =>
      rw [hs] at hf
      cases b with
      | true =>
        simp at hf
        obtain ⟨rfl, rfl⟩ := hf
        refine ⟨Nat.le_refl _, ?_⟩
        rw [Nat.sub_self]
        refine ⟨by simp [ht.1], fun q e' x' hq hx => ?_⟩
        cases q with
        | zero => simp at hq hx; subst hq hx; exact ⟨rfl, hd⟩
        | succ q => simp at hq hx; exact ht.2 q e' x' hq hx
      | false =>
        simp only at hf
        obtain ⟨g1, g2⟩ := ents_put hd es xs (i + 1) ht hf
        refine ⟨by omega, ?_⟩
        rw [show j - i = (j - (i + 1)) + 1 by omega]
        refine ⟨by simpa using g2.1, fun q e' x' hq hx => ?_⟩
        cases q with
        | zero => simp at hq hx; subst hq hx; exact ⟨h1, h2⟩
        | succ q => simp at hq hx; exact g2.2 q e' x' hq hx
section
variable {P : Program} {N : Nat} {w0 : World} {U0 : Nat → Nat}
theorem op_mapSet {o : Oper} {σ : AS} {t : TypeId} {x y z : Operand} (ho : o.op = .mapUpdate t x y z) (hdn : o.dst = none) {kt et : TypeId} (ht : P.underlying t = some (.map kt et)) {td : TypeDesc} (hk : P.underlying kt = some td) (htd : keyTd td = true)
    {m : Nat} {xs : List (Value × DV)} (hx : σ.ev x = .ow m) (hm : σ.n m = .mp xs) {k : Value} (hy : σ.ev y = .d (.fl k)) {d0 : DV} (hr : mfind td k xs = some (some d0)) {d : DV} (hz : σ.ev z = .d d)
    (hstay : ∀ w : World, (Instr.keyThatStays k k).run P w = .ok k w) :
    OpS P N w0 U0 o σ ⟨none, [(m, .mp (mput td k d xs))], [m], []⟩ := by
  intro σ' hok a w hs K Q hK
  obtain ⟨F, hF⟩ := hs.f
  have hv : a.eval x = F.γ m := ev_get hok hF (x := x) (by simp [ho, Op.operands]) hx
  have hkv : a.eval y = k := flat_val (ev_get hok hF (x := y) (by simp [ho, Op.operands]) hy)
  have hvz : Rd w F.U (a.eval z) d := ev_get hok hF (x := z) (by simp [ho, Op.operands]) hz
  have hm' : σ'.n m = .mp xs := by rw [hok.n m (by simp)]; exact hm
  have hn := hF.n m
  rw [hm'] at hn
  obtain ⟨b, es, c, h1, h2, h3, h4, h5, h6, hst⟩ := hn
  have hlt : b < w.heap.size := (Array.getElem?_eq_some_iff.1 h4).1
  obtain ⟨_, g2⟩ := find_ents es.toList xs 0 h5 _ hr
  obtain ⟨j, u, g3, g4⟩ := g2 _ rfl
  obtain ⟨e, _, g5, g6, g7⟩ := find_at es.toList 0 g3
  have g5 : es[j]? = some e := by simpa using g5
  have g8 : k = e.key := same_key g7
  obtain ⟨_, hput⟩ := ents_put (k := k) hvz es.toList xs 0 h5 g3
  rw [Nat.sub_zero] at hput
  have hrun : (execOp a.eval o).run P w = .ok .skip (setBlock w b (.map (es.modify j fun e => { e with key := k, val := a.eval z }) c)) := by
    simp [execOp, ho, hv, h1, hkv, Instr.mapUpdate, run_underlying ht, MapKept.run_getObj_map h4, run_checkKey' hk htd, run_findKey' hk g3, g5, ← g8, hstay, MapKept.run_setObj_map _ h4, Result.andThen, setBlock]
  have hE := ext_setBlock (w := w) (Obj.map (es.modify j fun e => { e with key := k, val := a.eval z }) c) h3
  have hents : Ents (setBlock w b (.map (es.modify j fun e => { e with key := k, val := a.eval z }) c)) F.U (es.modify j fun e => { e with key := k, val := a.eval z }).toList (mput td k d xs) := by
    rw [Array.toList_modify]
    exact hput.ext hE
  have hfit := hF.setobj (a' := a) (m := m) (b := b) (by rw [hm']; rfl) h6 h3 (obj := .map (es.modify j fun e => { e with key := k, val := a.eval z }) c) (ob := .mp (mput td k d xs)) ⟨b, _, _, h1, h2, h3, setBlock_same _ hlt, hents, h6, MapKept.stamped_modify hst j _ (fun _ _ => rfl) (fun e' _ he' => by rw [he'] at g5; cases g5; exact g8)⟩
    (tw := none) (fun _ => rfl) (fun _ _ h => by cases h) [m]
  unfold Oper.wp
  rw [hrun]
  have : a.put o.dst undef = a := by rw [hdn]; rfl
  unfold Oper.upon
  simp only [this]
  exact hK _ _ ⟨hs.d, hs.s, below_setBlock hs.b h2 _, _, hfit⟩
theorem stays_str (s : ByteArray) (w : World) : (Instr.keyThatStays (.string s) (.string s)).run P w = .ok (.string s) w := by
  simp [Instr.keyThatStays, Instr.sameBits, (MapKept.bytes_beq s s).2 rfl, Result.andThen]
end
end Go.Proofs.YtldglchpaookiaaDoor.Av
