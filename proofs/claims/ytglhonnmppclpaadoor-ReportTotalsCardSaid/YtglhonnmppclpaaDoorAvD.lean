/- Rules for states of data. Conditions: as each theorem names them. -/
import Derived.Test.YtglhonnmppclpaaDoorAvC
import Derived.Laws.Shifts
import Derived.Laws.Unary
import Derived.Laws.Entries
import Derived.Lib.ConvBytes
import Derived.Lib.AppendStr
import Derived.Laws.IdiomCopy
import Derived.Laws.MakeOwn
import Derived.Laws.Slices
import Derived.LoopN
set_option linter.unusedSimpArgs false
set_option linter.unusedVariables false
namespace Go.Proofs.YtglhonnmppclpaaDoor.Av
open Go Go.RowKit
section
variable {P : Program} (t : TypeId) (k yk : IntKind) (a b : Int) (x y : Operand) (w : World)
end
end Go.Proofs.YtglhonnmppclpaaDoor.Av

namespace Go.Proofs.YtglhonnmppclpaaDoor.Av
open Go Go.RowKit
section
variable {P : Program} {N : Nat} {w0 : World} {U0 : Nat → Nat}
end
end Go.Proofs.YtglhonnmppclpaaDoor.Av

namespace Go.Proofs.YtglhonnmppclpaaDoor.Av
open Go Go.RowKit
def CtrT (P : Program) (f : FuncId) (e : TypeId) (z : Nat) (rows : List (List OC)) (args : List DV) (rows' : List (List OC)) : Prop :=
  ∀ (v : Value) (vals : List Value) (U : Nat → Nat) (S0 : Nat → Prop) (w : World), Rob 0 w (thF none v U S0) 0 (.tr e z rows) → Rds w U vals args →
    Calls P f (v :: vals).toArray w fun ex w' => ∃ rv U' S', ex = .returned rv ∧ Below 0 (bare w) w' ∧ (∀ g, g < w.heap.size → ¬ S0 g → w'.heap[g]? = w.heap[g]? ∧ U' g = U g) ∧ (∀ g, S' g → S0 g ∨ w.heap.size ≤ g) ∧ Rob 0 w' (thF none rv U' S') 0 (.tr e z rows')
section
variable {P : Program} {N : Nat} {w0 : World} {U0 : Nat → Nat}
def retT (t : Nat) (e : TypeId) (z : Nat) (rows' : List (List OC)) (H : World) (V : Nat → Nat) (Q : Nat → Prop) : Exit → AS → Prop
  | .normal, σ | .ret, σ => ∃ m, m ≠ 1 ∧ σ.t t = .ow m ∧ σ.n m = .tr e z rows' ∧ σ.n 1 = .pin H V Q
  | _, _ => False
end
end Go.Proofs.YtglhonnmppclpaaDoor.Av

namespace Go.Proofs.YtglhonnmppclpaaDoor.Av
open Go Go.RowKit
def bys (s : ByteArray) : List Int := s.data.toList.map fun b => (b.toNat : Int)
theorem bys_len (s : ByteArray) : (bys s).length = s.size := by simp [bys]
theorem rI_flat (k : IntKind) : ∀ l : List Int, (l.map (rI k)).flatten = l.map fun x => DV.fl (.int k x)
  | [] => rfl
  | a :: l => by
    show [DV.fl (.int k a)] ++ (l.map (rI k)).flatten = _
    rw [rI_flat k l]; rfl
theorem rc_ints {w : World} {U : Nat → Nat} (k : IntKind) (L : List Int) : Rc w U (L.map fun x => Value.int k x) (L.map fun x => DV.fl (.int k x)) := by
  refine ⟨⟨by simp, fun j u d hu hdv => ?_⟩, fun u hu => ?_⟩
  · simp only [List.getElem?_map, Option.map_eq_some_iff] at hu hdv
    obtain ⟨z, hz, rfl⟩ := hu
    obtain ⟨z', hz', rfl⟩ := hdv
    rw [hz] at hz'; cases hz'
    exact .fl _
  · obtain ⟨z, _, rfl⟩ := List.mem_map.1 hu; rfl
section
variable {P : Program} {N : Nat} {w0 : World} {U0 : Nat → Nat}
end
end Go.Proofs.YtglhonnmppclpaaDoor.Av

namespace Go.Proofs.YtglhonnmppclpaaDoor.Av
open Go Go.RowKit
section
variable {P : Program} {N : Nat} {w0 : World} {U0 : Nat → Nat}
theorem op_rowOn {o : Oper} {σ : AS} {e : TypeId} (m : Nat) {m0 z : Nat} {rows rows' : List (List DV)} {rn : List Nat} (hm : σ.n m0 = .tr e z (rows.map (·.map .dv))) (hd : dOk o N = true) (hz : ∀ r ∈ rows', r.length = z)
    (h : ∀ σ', (⟨o.dst.map fun d => (d, .ow m), (m, .tr e z (rows'.map (·.map .dv))) :: [m0].map (fun q => (q, Ob.no)), m0 :: rn, [m]⟩ : Eff).ok o σ σ' → ∀ a w F xs, Fits w0 U0 σ' a w F → w0.heap.size ≤ w.heap.size → w.ownsRow w0.heap.size e z (F.γ m0) rows.length xs → Rc w F.U xs rows.flatten →
      ∃ v' w' xs', (execOp a.eval o).run P w = .ok (.value v') w' ∧ Below w0.heap.size w w' ∧ w'.ownsRow w0.heap.size e z v' rows'.length xs' ∧ (∀ b, b < w.heap.size → (F.γ m0).ownBlock ≠ some b → w'.heap[b]? = w.heap[b]?) ∧ (∀ g, v'.ownBlock = some g → w.heap.size ≤ g ∨ (F.γ m0).ownBlock = some g) ∧ ∀ U, Rc w' U xs' rows'.flatten) :
    OpS P N w0 U0 o σ ⟨o.dst.map fun d => (d, .ow m), (m, .tr e z (rows'.map (·.map .dv))) :: [m0].map (fun q => (q, Ob.no)), m0 :: rn, [m]⟩ := by
  intro σ' hok a w hst K Q hK
  obtain ⟨F, hF⟩ := hst.f
  have hm' : σ'.n m0 = .tr e z (rows.map (·.map .dv)) := by rw [hok.n m0 (by simp)]; exact hm
  have hlive : (σ'.n m0).live = true := by rw [hm']; rfl
  have hob := hF.n m0
  rw [hm'] at hob
  obtain ⟨xs, T, g1, g2, g3, g4, g5⟩ := hob
  rw [flat_map_dv] at g2
  obtain ⟨hrc, hno⟩ := Tcs.noDv g2
  rw [List.length_map] at g1
  obtain ⟨v', w', xs', hex, hB, k1, k2, k3, k4⟩ := h σ' hok a w F xs hF hst.b.size g1 hrc
  unfold Oper.wp
  rw [hex]
  obtain ⟨U', hU'⟩ : ∃ U' : Nat → Nat, U' = fun b => if v'.ownBlock = some b then 0 else F.U b := ⟨_, rfl⟩
  have hU1 : ∀ b, v'.ownBlock = some b → U' b = 0 := fun b hb => by rw [hU']; simp [hb]
  have hU2 : ∀ b, v'.ownBlock ≠ some b → U' b = F.U b := fun b hb => by rw [hU']; simp [hb]
  have hne : ∀ b, b < w.heap.size → (F.γ m0).ownBlock ≠ some b → v'.ownBlock ≠ some b := fun b hlt hb h => by
    rcases k3 b h with h | h
    · omega
    · exact hb h
  have hE : Ext w F.U w' U' := by
    refine ⟨fun b off u hcl ho' => ?_, fun r es c hr hu => ?_⟩
    · have hb : (F.γ m0).ownBlock ≠ some b := fun h => by have := (g4 b h).1; omega
      have hlt := World.block_lt_of_cell? w _ hcl
      exact ⟨(World.cell?_of_block (k2 b hlt hb)).trans hcl, by rw [hU2 b (hne b hlt hb)]; exact ho'⟩
    · have hb : (F.γ m0).ownBlock ≠ some r := fun h => by have := (g4 r h).1; omega
      have hlt := (Array.getElem?_eq_some_iff.1 hr).1
      exact ⟨k2 r hlt hb, hU2 r (hne r hlt hb)⟩
  have hown : ∀ b, (F.γ m0).ownBlock = some b → w0.heap.size ≤ b := fun b hb => (g1.lt b hb).1
  have hfit := hF.make (m := m) (ob := .tr e z (rows'.map (·.map .dv))) (ks := [m0]) (γv := v') (βv := none) (Sm := fun b => v'.ownBlock = some b) (U' := U') (w' := w') (a' := a.put o.dst v') (tw := o.dst.map fun d => (d, .ow m)) (hok.f m (by simp)) hE (fun b hb => hU2 b (hne b (by have := hst.b.size; omega) (fun h => by have := hown b h; omega)))
    (fun k b hl hk hb hlt => by
      have h5 : (F.γ m0).ownBlock ≠ some b := fun h => hk (by rw [hF.i k m0 b hl hlive hb ((g5 b).2 (.inl h))]; simp)
      exact ⟨k2 b hlt h5, hU2 b (hne b hlt h5)⟩)
    (fun b hb => by
      rcases k3 b hb with h | h
      · exact .inl h
      · exact .inr ⟨m0, by simp, hlive, (g5 b).2 (.inl h)⟩)
    (by
      refine ⟨xs', fun _ _ => False, by simp only [↓reduceIte, List.length_map]; exact k1, by rw [flat_map_dv]; exact Tcs.ofRc (k4 U'), fun r hr => ?_, fun b hb => ?_, fun b => ?_⟩
      · obtain ⟨y, hy, rfl⟩ := List.mem_map.1 hr
        simpa using hz y hy
      · simp only [↓reduceIte] at hb
        exact ⟨hU1 b hb, fun _ h => h⟩
      · simp only [↓reduceIte]
        exact ⟨fun h => .inl h, fun h => h.elim id (fun ⟨_, h⟩ => h.elim)⟩)
    (hta_put hd hst.s (.ow m) _).1 (fun d v'' h => by
      obtain ⟨rfl, h3⟩ := (hta_put hd hst.s (.ow m) v').2 d v'' h
      rw [h3]; exact (if_pos rfl).symm) (m0 :: rn) [m]
  exact hK _ _ ⟨by rw [put_defers]; exact hst.d, by rw [put_size]; exact hst.s, hst.b.trans hB, _, hfit⟩
theorem strCells_bys (s : ByteArray) : Lib.strCells s = (bys s).map fun x => Value.int .u8 x := by simp [Lib.strCells, bys, List.map_map, Function.comp_def]
theorem op_appendStr {o : Oper} {σ : AS} {t u e : TypeId} {s x : Operand} (m : Nat) (ho : o.op = .call { callee := .builtin .append, args := #[s, x], argTypes := #[t, u] })
    (ht : P.underlying t = some (.slice e)) (hu : P.underlying u = some .string) (hi : TI P e (.int .u8 0) 1 1) {m0 : Nat} {l : List Int} {q : ByteArray} (hs : σ.ev s = .ow m0) (hm : σ.n m0 = .tr e 1 (tD (rI .u8) l)) (hx : σ.ev x = .d (.fl (.string q))) (hbytes : l.length + q.size ≤ 140737488355328) (hd : dOk o N = true) :
    OpS P N w0 U0 o σ ⟨o.dst.map fun d => (d, .ow m), (m, .tr e 1 (tD (rI .u8) (l ++ bys q))) :: [m0].map (fun q => (q, Ob.no)), [m0], [m]⟩ := by
  obtain ⟨i, i1, i2, i3, i4⟩ := hi
  refine op_rowOn (rows := l.map (rI .u8)) (rows' := (l ++ bys q).map (rI .u8)) (rn := []) m hm hd (fun r hr => by
    obtain ⟨x, _, rfl⟩ := List.mem_map.1 hr; rfl) fun σ' hok a w F xs hF hw hown hrc => ?_
  have hv0 : a.eval s = F.γ m0 := ev_get hok hF (x := s) (by simp [ho, Op.operands, Call.operands]) hs
  have hvx := flat_val (ev_get hok hF (x := x) (by simp [ho, Op.operands, Call.operands]) hx)
  rw [List.length_map] at hown
  rw [rI_flat] at hrc
  have hxs : xs = l.map fun x => Value.int .u8 x := by
    apply List.ext_getElem?
    intro k
    rcases Nat.lt_or_ge k l.length with hk | hk
    · have hxl : k < xs.length := by rw [hown.1]; omega
      have := hrc.1.2 k _ (.fl (.int .u8 l[k])) (List.getElem?_eq_getElem hxl) (by simp [hk])
      rw [List.getElem?_eq_getElem hxl, rd_fl this]; simp [hk]
    · rw [List.getElem?_eq_none (by rw [hown.1]; omega), List.getElem?_eq_none (by simp; exact hk)]
  subst hxs
  have hmx : l.length + q.size ≤ maxLen := by unfold maxLen; omega
  obtain ⟨v', w', hr, h1, h2, h3⟩ := Lib.run_append_own_string (P := P) w w0.heap.size t u o.type e i ht hu i1 i2 i3 i4 (F.γ m0) l.length _ hown q hmx hbytes hw
  have hloc : ∀ g, v'.ownBlock = some g → w.heap.size ≤ g ∨ (F.γ m0).ownBlock = some g := by
    intro g hg
    rcases hown.2 with ⟨e0, e00⟩ | ⟨g0, cap, cur, e1, e2, e3, e4, e5, e6, e7⟩
    · by_cases hq : q.size = 0
      · have := h3.2 ⟨e0, hq⟩
        rw [this] at hg; cases hg
      · have hr2 := run_append_nil_string (P := P) w t u o.type e i (.int .u8 0) ht hu i1 i2 q (by omega) (by omega) (by rw [i4]; omega)
        rw [e0] at hr
        rw [hr] at hr2
        have hv := (Result.ok.inj hr2).1
        rw [hv] at hg
        have : w.heap.size = g := by simpa [Value.ownBlock] using hg
        exact .inl (by omega)
    · rw [e1] at hr
      by_cases hroom : l.length + q.size ≤ cap
      · have hr2 := Lib.run_append_room_string (P := P) w t u o.type e i ht hu i1 i3 g0 l.length cap cur e3 q hroom (by omega)
        rw [hr] at hr2
        rw [(Result.ok.inj hr2).1] at hg
        rw [e1]
        exact .inr hg
      · have holds : ∀ j y, (l.map fun x => Value.int .u8 x)[j]? = some y → w.cell? ((⟨g0, 0, none⟩ : Addr).add j) = some y := hown.cells (g := g0) (by rw [e1]; rfl)
        have hr2 := Lib.run_append_grow_string (P := P) w t u o.type e i (.int .u8 0) ht hu i1 i2 ⟨g0, 0, none⟩ l.length cap (l.map fun x => Value.int .u8 x) (by rw [i3]; simp) holds q (by omega) (by omega) (by rw [i4]; exact growslice_fits (by omega) (by omega))
        rw [hr] at hr2
        rw [(Result.ok.inj hr2).1] at hg
        have : w.heap.size = g := by simpa [Value.ownBlock] using hg
        exact .inl (by omega)
  refine ⟨v', w', _, ?_, ?_, by simpa [bys_len] using h1, ?_, hloc, fun U => ?_⟩
  · unfold execOp
    simp only [ho, resolve, invoke, builtin, Sem.run_bind, Sem.run_pure, Result.andThen_ok, List.map_toArray, List.map_cons, List.map_nil, hv0, hvx, hr]
  · exact (Below.refl w0.heap.size w).grown h2 hw (fun k hk => (hown.lt k hk).1)
  · exact fun b hlt hb => h2.block b hlt (fun h => hb h.symm)
  · rw [strCells_bys, ← List.map_append, rI_flat]
    exact rc_ints .u8 _
end
end Go.Proofs.YtglhonnmppclpaaDoor.Av

namespace Go.Proofs.YtglhonnmppclpaaDoor.Av
open Go Go.RowKit
theorem tD_ok {α : Type} {f : α → List DV} {l : List α} : ∀ r ∈ tD f l, ∀ c ∈ r, c.ok = true := by
  intro r hr c hc
  obtain ⟨y, hy, rfl⟩ := List.mem_map.1 hr
  obtain ⟨x, hx, rfl⟩ := List.mem_map.1 hc
  rfl
theorem tD_rd {α : Type} {f : α → List DV} {l : List α} : (tD f l).map (·.map OC.rd) = l.map f := by
  unfold tD
  rw [List.map_map, List.map_map]
  apply List.map_congr_left
  intro x _
  show ((f x).map OC.dv).map OC.rd = f x
  rw [List.map_map]
  exact List.map_id _
section
variable {P : Program} {N : Nat} {w0 : World} {U0 : Nat → Nat}
theorem imp_leakT {L : List (Nat × AV)} {M : List (Nat × Ob)} (t m : Nat) {e : TypeId} {z : Nat} {α : Type} {f : α → List DV} {l : List α} (ht : lk L t = .ow m) (hm : ln M m = .tr e z (tD f l)) : Imp N w0 U0 (SS L M) (SS ((t, .d (.sl z (l.map f))) :: L) ((m, .no) :: M)) :=
  imp_leakE t m ht hm tD_ok tD_rd
theorem u_neg64 (a : Int) (w : World) (h : -9223372036854775807 ≤ a ∧ a ≤ 9223372036854775807) : (Op.unary .neg (.int .i64 a)).run P w = .ok (.int .i64 (-a)) w := by
  have e : IntKind.i64.wrap (-a) = -a := by rw [IntKind.wrap_i64]; omega
  have e2 : IntKind.i64.wrap (0 - a) = -a := by rw [Int.zero_sub]; exact e
  simp [Op.unary, Op.intArith, e, e2]
end
end Go.Proofs.YtglhonnmppclpaaDoor.Av

namespace Go.Proofs.YtglhonnmppclpaaDoor.Av
open Go Go.RowKit
def cI (k : IntKind) (x : Int) : DV := .fl (.int k x)
section
variable {P : Program} {N : Nat} {w0 : World} {U0 : Nat → Nat}
end
end Go.Proofs.YtglhonnmppclpaaDoor.Av

namespace Go.Proofs.YtglhonnmppclpaaDoor.Av
open Go Go.RowKit
def RresW (w : World) (U : Nat → Nat) (B : Nat) (v : Value) (e : TypeId) (z : Nat) (rows : List (List DV)) : Prop :=
  ∃ xs, w.ownsRow B e z v rows.length xs ∧ Rc w U xs rows.flatten ∧ (∀ r ∈ rows, r.length = z) ∧ ∀ b, v.ownBlock = some b → U b = rows.length * z
def CtrW (P : Program) (f : FuncId) (args : List DV) (e : TypeId) (z : Nat) (rows : List (List DV)) : Prop :=
  ∀ (vals : List Value) (U : Nat → Nat) (w : World), Rds w U vals args → Calls P f vals.toArray w fun ex w' => ∃ v U', ex = .returned v ∧ Below w.heap.size w w' ∧ (∀ b, b < w.heap.size → U' b = U b) ∧ RresW w' U' w.heap.size v e z rows
section
variable {P : Program} {N : Nat} {w0 : World} {U0 : Nat → Nat}
end
end Go.Proofs.YtglhonnmppclpaaDoor.Av

namespace Go.Proofs.YtglhonnmppclpaaDoor.Av
open Go Go.RowKit
section
variable {P : Program} {N : Nat} {w0 : World} {U0 : Nat → Nat}
end
end Go.Proofs.YtglhonnmppclpaaDoor.Av

namespace Go.Proofs.YtglhonnmppclpaaDoor.Av
open Go Go.RowKit
theorem rd_len {w : World} {U : Nat → Nat} {v : Value} {z : Nat} {rows : List (List DV)} (h : Rd w U v (.sl z rows)) : rows.length ≤ 9223372036854775807 := by
  cases h with
  | sn A c => simp
  | sl b off n c _ _ u hn hzz hm hcell hrr => omega
end Go.Proofs.YtglhonnmppclpaaDoor.Av

namespace Go.Proofs.YtglhonnmppclpaaDoor.Av
open Go Go.RowKit
section
variable {P : Program} {N : Nat} {w0 : World} {U0 : Nat → Nat}
structure ARd (P : Program) (N : Nat) (w0 : World) (U0 : Nat → Nat) (c : Code) (R : Exit → AS → Prop) (n : Nat) (σ : AS) : Prop where
  go : ∀ a w, St N w0 U0 σ a w → ∀ Q, (∀ e σ' a' w', R e σ' → St N w0 U0 σ' a' w' → Q e a' w') → Code.rounds P c Q n a w
def sLt (s u : ByteArray) : Bool := Op.bytesLess s.toList u.toList
end
end Go.Proofs.YtglhonnmppclpaaDoor.Av

namespace Go.Proofs.YtglhonnmppclpaaDoor.Av
open Go Go.RowKit
section
variable {P : Program} {N : Nat} {w0 : World} {U0 : Nat → Nat}
theorem imp_btnil {L : List (Nat × AV)} {M : List (Nat × Ob)} (m k0 : Nat) (e : TypeId) (z : Nat) {ty : TypeId} {cs : List OC} (hm : ln M m = .bt ty cs) (hk : cs[k0]? = some (.dv (.fl (.slice none 0 0)))) : Imp N w0 U0 (SS L M) (SS L ((m, .bt ty (cs.set k0 (.ow e z []))) :: M)) := by
  intro a w hs
  obtain ⟨F, hF⟩ := hs.f
  have hob := hF.n m
  rw [show (SS L M).n m = _ from hm] at hob
  obtain ⟨b, vs, T, k1, k2, k3, k4, k5, k6, k7⟩ := hob
  refine ⟨hs.d, hs.s, hs.b, F, hF.u, hF.t, fun k => ?_, fun k k' b h1 h2 h3 h4 => ?_⟩
  · show Rob _ w F k (bif Nat.beq m k then _ else ln M k)
    by_cases e1 : m = k
    · subst e1
      rw [Nat.beq_refl]
      refine ⟨b, vs, T, k1, k2, k3, k4, ⟨by rw [List.length_set]; exact k5.l, fun j u c h1 h2 => ?_, k5.o, k5.d, k5.b⟩, k6, k7⟩
      by_cases ej : k0 = j
      · subst ej
        have hl : k0 < cs.length := by
          rcases Nat.lt_or_ge k0 cs.length with h | h
          · exact h
          · rw [List.getElem?_eq_none h] at hk; cases hk
        rw [List.getElem?_set_self hl] at h2
        injection h2 with h2
        subst h2
        obtain ⟨g1, g2⟩ := k5.c k0 u _ h1 hk
        have hu : u = .slice none 0 0 := by cases g1; rfl
        subst hu
        exact ⟨[], World.ownsRow_nil _ _ _ _, ⟨Rds.nil, fun v hv => by cases hv⟩, (fun r hr => by cases hr), fun b' => ⟨fun h => (g2 b' h).elim, fun h => by cases h⟩, fun b' h => by cases h⟩
      · rw [List.getElem?_set_ne ej] at h2
        exact k5.c j u c h1 h2
    · rw [nbeq e1]; exact hF.n k
  · have g : ∀ j, ((SS L ((m, .bt ty (cs.set k0 (.ow e z []))) :: M)).n j).live = true → ((SS L M).n j).live = true := fun j hj => by
      by_cases e1 : m = j
      · subst e1; show (ln M m).live = true; rw [hm]; rfl
      · have hj' : (bif Nat.beq m j then _ else ln M j : Ob).live = true := hj
        rw [nbeq e1] at hj'; exact hj'
    exact hF.i k k' b (g k h1) (g k' h2) h3 h4
theorem op_takeBt {o : Oper} {σ : AS} {t : TypeId} {x : Operand} (m3 : Nat) (ho : o.op = .load t x) {d : TypeDesc} (hu : P.underlying t = some d) (ha : aggD d = false) {m p : Nat} (hx : (σ.ev x).ptOf = some (m, p)) {ty : TypeId} {cs : List OC} (hm : σ.n m = .bt ty cs) {e2 z2 : Nat} {rows2 : List (List DV)} (hv : cs[p]? = some (.ow e2 z2 rows2)) (hne : Nat.beq m3 m = false) (hd : dOk o N = true) :
    OpS P N w0 U0 o σ ⟨o.dst.map fun d => (d, .ow m3), [(m3, .tr e2 z2 (rows2.map (·.map .dv))), (m, .bt ty (cs.take p ++ [.un] ++ cs.drop (p + 1)))], [m], [m3]⟩ := by
  intro σ' hok a w hs K Q hK
  obtain ⟨F, hF⟩ := hs.f
  obtain ⟨g', h1, h2⟩ := pt_get hok hF (x := x) (by simp [ho, Op.operands]) hx
  have hm' : σ'.n m = .bt ty cs := by rw [hok.n m (by simp)]; exact hm
  have hjl := (List.getElem?_eq_some_iff.1 hv).1
  obtain ⟨vs, T, kB, kU, k3, k8, kT, kS⟩ := bt_get hF hm' h1
  have hk : p < vs.toList.length := by rw [k8.l]; exact hjl
  obtain ⟨u, hu'⟩ : ∃ u, vs.toList[p]? = some u := ⟨_, List.getElem?_eq_getElem hk⟩
  have hc : w.cell? ⟨g', p, none⟩ = some u := by rw [cell_of_row w g' p vs ty (0, 0) k3]; simpa using hu'
  obtain ⟨ys, y1, y2, y3, y4, y5⟩ := k8.c _ u _ hu' hv
  have hfr : fresh σ' m3 := hok.f m3 (by simp)
  have hmm : m ≠ m3 := fun h => by rw [h, Nat.beq_refl] at hne; cases hne
  have hlive : (σ'.n m).live = true := by rw [hm']; rfl
  have hrun : (execOp a.eval o).run P w = .ok (.value u) w := by simp [execOp, ho, h2, Instr.loadAt, Instr.sureAddr, run_load_one hu ha hc]
  obtain ⟨F', hF'⟩ : ∃ F' : Fr, F' = ⟨fun k => if k = m3 then none else F.β k, fun k => if k = m3 then u else F.γ k, F.U, fun k b => if k = m3 then T p b else if k = m then (b = g' ∨ ∃ q, q ≠ p ∧ T q b) else F.S k b⟩ := ⟨_, rfl⟩
  have hβ3 : F'.γ m3 = u := by rw [hF']; exact if_pos rfl
  have hβm : F'.β m = some g' := by rw [hF']; exact (if_neg hmm).trans h1
  have hU : F'.U = F.U := by rw [hF']
  have hS3 : ∀ b, F'.S m3 b ↔ T p b := fun b => by rw [hF']; show (if m3 = m3 then _ else _) ↔ _; rw [if_pos rfl]
  have hSm : ∀ b, F'.S m b ↔ (b = g' ∨ ∃ q, q ≠ p ∧ T q b) := fun b => by rw [hF']; show (if m = m3 then _ else if m = m then _ else _) ↔ _; rw [if_neg hmm, if_pos rfl]
  have hSk : ∀ k, k ≠ m3 → k ≠ m → ∀ b, F'.S k b ↔ F.S k b := fun k a1 a2 b => by rw [hF']; show (if k = m3 then _ else if k = m then _ else _) ↔ _; rw [if_neg a1, if_neg a2]
  have hnw : ∀ k, nwGet [(m3, Ob.tr e2 z2 (rows2.map (·.map OC.dv))), (m, Ob.bt ty (cs.take p ++ [OC.un] ++ cs.drop (p + 1)))] k = if k = m3 then some (.tr e2 z2 (rows2.map (·.map OC.dv))) else if k = m then some (.bt ty (cs.take p ++ [OC.un] ++ cs.drop (p + 1))) else none := by
    intro k
    unfold nwGet
    by_cases a1 : k = m3
    · subst a1; rw [Nat.beq_refl, if_pos rfl]; rfl
    · rw [nbeq (Ne.symm a1), if_neg a1]
      unfold nwGet
      by_cases a2 : k = m
      · subst a2; rw [Nat.beq_refl, if_pos rfl]; rfl
      · rw [nbeq (Ne.symm a2), if_neg a2]; rfl
  have hsub : ∀ b, T p b → F.S m b := fun b hb => (kS b).2 (.inr ⟨_, hb⟩)
  have hb := hF.big (F' := F') (w' := w) (tw := o.dst.map fun d => (d, .ow m3)) (nw := [(m3, .tr e2 z2 (rows2.map (·.map .dv))), (m, .bt ty (cs.take p ++ [.un] ++ cs.drop (p + 1)))]) (by rw [hU]; exact Ext.rfl) (fun b _ => by rw [hU])
    (fun k hk => by
      rw [hnw] at hk
      have a1 : k ≠ m3 := fun h => by rw [if_pos h] at hk; cases hk
      rw [if_neg a1] at hk
      have a2 : k ≠ m := fun h => by rw [if_pos h] at hk; cases hk
      exact ⟨by rw [hF']; exact if_neg a1, by rw [hF']; exact if_neg a1, hSk k a1 a2⟩)
    (fun k hk => by
      rw [hnw] at hk
      by_cases a1 : k = m3
      · right; rw [a1]; exact hfr
      · left; exact ⟨by rw [hF']; exact if_neg a1, by rw [hF']; exact if_neg a1⟩)
    (fun k hl hk b hb hlt => ⟨rfl, by rw [hU]⟩)
    (fun k ob hk => by
      rw [hnw] at hk
      by_cases a1 : k = m3
      · rw [if_pos a1] at hk
        injection hk with hk
        subst hk a1
        refine ⟨ys, fun _ _ => False, by rw [hβ3, List.length_map]; exact y1, by rw [flat_map_dv, hU]; exact Tcs.ofRc y2, fun r' hr' => ?_, fun b hb => ⟨?_, fun _ => id⟩, fun b => ?_⟩
        · obtain ⟨r'', h3, rfl⟩ := List.mem_map.1 hr'
          simpa using y3 r'' h3
        · rw [hU]; rw [hβ3] at hb; exact y5 b hb
        · rw [hS3, hβ3, y4 b]
          exact ⟨.inl, fun h => h.elim id (fun ⟨_, h⟩ => h.elim)⟩
      · rw [if_neg a1] at hk
        by_cases a2 : k = m
        · rw [if_pos a2] at hk
          injection hk with hk
          subst hk a2
          refine ⟨g', vs, fun q b => q ≠ p ∧ T q b, hβm, kB, by rw [hU]; exact kU, k3, ?_, fun q h => kT q h.2, fun b => by rw [hSm]⟩
          rw [hU]
          have hcl := k8.l
          have hcs : ∀ q, (cs.take p ++ [OC.un] ++ cs.drop (p + 1))[q]? = if q = p then some .un else cs[q]? := by
            intro q
            rcases Nat.lt_trichotomy q p with hq | hq | hq
            · rw [if_neg (by omega), List.append_assoc, List.getElem?_append_left (by simp; omega), List.getElem?_take_of_lt hq]
            · subst hq
              rw [if_pos rfl, List.append_assoc, List.getElem?_append_right (by simp; omega)]
              simp
              rw [Nat.min_eq_left (by omega)]
              simp
            · rw [if_neg (by omega), List.getElem?_append_right (by simp; omega), List.getElem?_drop]
              congr 1
              simp
              omega
          refine ⟨by have := hcl; simp only [List.length_append, List.length_take, List.length_drop, List.length_singleton]; omega, fun q v c hv' hc' => ?_, k8.o, fun q q' b h1 h2 => k8.d q q' b h1.2 h2.2, fun q b h1 => k8.b q b h1.2⟩
          rw [hcs] at hc'
          by_cases hq : q = p
          · rw [if_pos hq] at hc'
            injection hc' with hc'
            subst hc'
            exact fun b hb => hb.1 hq
          · rw [if_neg hq] at hc'
            have := k8.c q v c hv' hc'
            have e1 : (fun b => q ≠ p ∧ T q b) = T q := by funext b; exact propext ⟨fun h => h.2, fun h => ⟨hq, h⟩⟩
            rw [e1]
            exact this
        · rw [if_neg a2] at hk; cases hk)
    (fun k ob k' b hk hl hk' hl' hb hb' => by
      have hS : F.S m b := by
        rw [hnw] at hk
        by_cases a1 : k = m3
        · subst a1; exact hsub b ((hS3 b).1 hb)
        · rw [if_neg a1] at hk
          by_cases a2 : k = m
          · subst a2
            rcases (hSm b).1 hb with h | ⟨q, _, h⟩
            · exact (kS b).2 (.inl h)
            · exact (kS b).2 (.inr ⟨q, h⟩)
          · rw [if_neg a2] at hk; cases hk
      have := hF.i m k' b hlive hl' hS hb'
      rw [hnw] at hk'
      subst this
      rw [if_neg hmm, if_pos rfl] at hk'
      cases hk')
    (fun k ob k' ob' b hk hl hk' hl' hb hb' => by
      rw [hnw] at hk hk'
      have no : ∀ b, T p b → (b = g' ∨ ∃ q, q ≠ p ∧ T q b) → False := fun b h3 h4 => by
        rcases h4 with h4 | ⟨q, h4, h5⟩
        · subst h4; exact kT _ h3
        · exact h4 (k8.d q _ b h5 h3)
      by_cases a1 : k = m3
      · by_cases a1' : k' = m3
        · rw [a1, a1']
        · rw [if_neg a1'] at hk'
          by_cases a2' : k' = m
          · subst a1 a2'; exact (no b ((hS3 b).1 hb) ((hSm b).1 hb')).elim
          · rw [if_neg a2'] at hk'; cases hk'
      · rw [if_neg a1] at hk
        by_cases a2 : k = m
        · by_cases a1' : k' = m3
          · subst a2 a1'; exact (no b ((hS3 b).1 hb') ((hSm b).1 hb)).elim
          · rw [if_neg a1'] at hk'
            by_cases a2' : k' = m
            · rw [a2, a2']
            · rw [if_neg a2'] at hk'; cases hk'
        · rw [if_neg a2] at hk; cases hk)
    (a' := a.put o.dst u) (hta_put hd hs.s (.ow m3) u).1 (fun d v h => by
      obtain ⟨rfl, h3⟩ := (hta_put hd hs.s (.ow m3) u).2 d v h
      rw [h3]
      exact hβ3.symm) [m] [m3]
  unfold Oper.wp
  rw [hrun]
  exact hK _ _ ⟨by rw [put_defers]; exact hs.d, by rw [put_size]; exact hs.s, hs.b, _, hb⟩
end
end Go.Proofs.YtglhonnmppclpaaDoor.Av

namespace Go.Proofs.YtglhonnmppclpaaDoor.Av
open Go Go.RowKit ChangeMaps
section
variable {P : Program} {N : Nat} {w0 : World} {U0 : Nat → Nat}
end
end Go.Proofs.YtglhonnmppclpaaDoor.Av

namespace Go.Proofs.YtglhonnmppclpaaDoor.Av
open Go Go.RowKit Go.ChangeMaps
def mput (td : TypeDesc) (k : Value) (d : DV) : List (Value × DV) → List (Value × DV)
  | [] => [(k, d)]
  | x :: xs => match Instr.sameNow td k x.1 with
    | some true => (k, d) :: xs
    | _ => x :: mput td k d xs
section
variable {P : Program} {N : Nat} {w0 : World} {U0 : Nat → Nat}
end
end Go.Proofs.YtglhonnmppclpaaDoor.Av
