/- Rules for states of data. Conditions: as each theorem names them. -/
import Derived.Test.YtniefocnfcaebaaAvC
import Derived.Laws.Shifts
import Derived.Laws.Unary
import Derived.Laws.Entries
import Derived.Lib.ConvBytes
import Derived.Lib.AppendStr
import Derived.Laws.IdiomCopy
import Derived.Laws.MakeOwn
import Derived.Laws.Slices
import Derived.LoopN
set_option linter.unusedSimpArgs false
set_option linter.unusedVariables false
namespace Go.Proofs.Ytniefocnfcaebaa.Av
open Go Go.RowKit
section
variable {P : Program} (t : TypeId) (k yk : IntKind) (a b : Int) (x y : Operand) (w : World)
theorem b_and : (do eqGuard .and t x y (.int k a) (.int k b); binOp .and t (.int k a) (.int k b) : Sem Value).run P w = .ok (.int k (bits .and k a b)) w := by simp [eqGuard, binOp_and, intBits_and]
theorem b_shr (h : 0 ≤ b) : (do eqGuard .shr t x y (.int k a) (.int yk b); binOp .shr t (.int k a) (.int yk b) : Sem Value).run P w = .ok (.int k (a / 2 ^ min b.toNat k.bits)) w := by simp [eqGuard, binOp_shr, shift_shr_any k yk a b h]
theorem b_quoK (h0 : 0 ≤ a) (hc : 0 < b) : (do eqGuard .quo t x y (.int k a) (.int k b); binOp .quo t (.int k a) (.int k b) : Sem Value).run P w = .ok (.int k (k.wrap (a / b))) w := by
  have : b ≠ 0 := by omega
  simp [eqGuard, binOp, Op.intDiv, this, Int.tdiv_eq_ediv_of_nonneg h0]
end
end Go.Proofs.Ytniefocnfcaebaa.Av

namespace Go.Proofs.Ytniefocnfcaebaa.Av
open Go Go.RowKit
section
variable {P : Program} {N : Nat} {w0 : World} {U0 : Nat → Nat}
end
end Go.Proofs.Ytniefocnfcaebaa.Av

namespace Go.Proofs.Ytniefocnfcaebaa.Av
open Go Go.RowKit
def CtrT (P : Program) (f : FuncId) (e : TypeId) (z : Nat) (rows : List (List OC)) (args : List DV) (rows' : List (List OC)) : Prop :=
  ∀ (v : Value) (vals : List Value) (U : Nat → Nat) (S0 : Nat → Prop) (w : World), Rob 0 w (thF none v U S0) 0 (.tr e z rows) → Rds w U vals args →
    Calls P f (v :: vals).toArray w fun ex w' => ∃ rv U' S', ex = .returned rv ∧ Below 0 (bare w) w' ∧ (∀ g, g < w.heap.size → ¬ S0 g → w'.heap[g]? = w.heap[g]? ∧ U' g = U g) ∧ (∀ g, S' g → S0 g ∨ w.heap.size ≤ g) ∧ Rob 0 w' (thF none rv U' S') 0 (.tr e z rows')
section
variable {P : Program} {N : Nat} {w0 : World} {U0 : Nat → Nat}
def retT (t : Nat) (e : TypeId) (z : Nat) (rows' : List (List OC)) (H : World) (V : Nat → Nat) (Q : Nat → Prop) : Exit → AS → Prop
  | .normal, σ | .ret, σ => ∃ m, m ≠ 1 ∧ σ.t t = .ow m ∧ σ.n m = .tr e z rows' ∧ σ.n 1 = .pin H V Q
  | _, _ => False
end
end Go.Proofs.Ytniefocnfcaebaa.Av

namespace Go.Proofs.Ytniefocnfcaebaa.Av
open Go Go.RowKit
def bys (s : ByteArray) : List Int := s.data.toList.map fun b => (b.toNat : Int)
section
variable {P : Program} {N : Nat} {w0 : World} {U0 : Nat → Nat}
end
end Go.Proofs.Ytniefocnfcaebaa.Av

namespace Go.Proofs.Ytniefocnfcaebaa.Av
open Go Go.RowKit
section
variable {P : Program} {N : Nat} {w0 : World} {U0 : Nat → Nat}
end
end Go.Proofs.Ytniefocnfcaebaa.Av

namespace Go.Proofs.Ytniefocnfcaebaa.Av
open Go Go.RowKit
theorem tD_ok {α : Type} {f : α → List DV} {l : List α} : ∀ r ∈ tD f l, ∀ c ∈ r, c.ok = true := by
  intro r hr c hc
  obtain ⟨y, hy, rfl⟩ := List.mem_map.1 hr
  obtain ⟨x, hx, rfl⟩ := List.mem_map.1 hc
  rfl
theorem tD_rd {α : Type} {f : α → List DV} {l : List α} : (tD f l).map (·.map OC.rd) = l.map f := by
  unfold tD
  rw [List.map_map, List.map_map]
  apply List.map_congr_left
  intro x _
  show ((f x).map OC.dv).map OC.rd = f x
  rw [List.map_map]
  exact List.map_id _
section
variable {P : Program} {N : Nat} {w0 : World} {U0 : Nat → Nat}
theorem imp_leakT {L : List (Nat × AV)} {M : List (Nat × Ob)} (t m : Nat) {e : TypeId} {z : Nat} {α : Type} {f : α → List DV} {l : List α} (ht : lk L t = .ow m) (hm : ln M m = .tr e z (tD f l)) : Imp N w0 U0 (SS L M) (SS ((t, .d (.sl z (l.map f))) :: L) ((m, .no) :: M)) :=
  imp_leakE t m ht hm tD_ok tD_rd
end
end Go.Proofs.Ytniefocnfcaebaa.Av

namespace Go.Proofs.Ytniefocnfcaebaa.Av
open Go Go.RowKit
def cI (k : IntKind) (x : Int) : DV := .fl (.int k x)
section
variable {P : Program} {N : Nat} {w0 : World} {U0 : Nat → Nat}
end
end Go.Proofs.Ytniefocnfcaebaa.Av

namespace Go.Proofs.Ytniefocnfcaebaa.Av
open Go Go.RowKit
def RresW (w : World) (U : Nat → Nat) (B : Nat) (v : Value) (e : TypeId) (z : Nat) (rows : List (List DV)) : Prop :=
  ∃ xs, w.ownsRow B e z v rows.length xs ∧ Rc w U xs rows.flatten ∧ (∀ r ∈ rows, r.length = z) ∧ ∀ b, v.ownBlock = some b → U b = rows.length * z
def CtrW (P : Program) (f : FuncId) (args : List DV) (e : TypeId) (z : Nat) (rows : List (List DV)) : Prop :=
  ∀ (vals : List Value) (U : Nat → Nat) (w : World), Rds w U vals args → Calls P f vals.toArray w fun ex w' => ∃ v U', ex = .returned v ∧ Below w.heap.size w w' ∧ (∀ b, b < w.heap.size → U' b = U b) ∧ RresW w' U' w.heap.size v e z rows
section
variable {P : Program} {N : Nat} {w0 : World} {U0 : Nat → Nat}
end
end Go.Proofs.Ytniefocnfcaebaa.Av

namespace Go.Proofs.Ytniefocnfcaebaa.Av
open Go Go.RowKit
section
variable {P : Program} {N : Nat} {w0 : World} {U0 : Nat → Nat}
end
end Go.Proofs.Ytniefocnfcaebaa.Av

namespace Go.Proofs.Ytniefocnfcaebaa.Av
open Go Go.RowKit
theorem rd_len {w : World} {U : Nat → Nat} {v : Value} {z : Nat} {rows : List (List DV)} (h : Rd w U v (.sl z rows)) : rows.length ≤ 9223372036854775807 := by
  cases h with
  | sn A c => simp
  | sl b off n c _ _ u hn hzz hm hcell hrr => omega
theorem opens_len {P : Program} {t : TypeId} {z : Nat} {α : Type} {f : α → List DV} {ok : List α → Prop} (h : Opens P t (rL z f) ok) : Opens P t (rL z f) (fun l => l.length ≤ 9223372036854775807 ∧ ok l) := by
  intro H enc w base spare held fuel cs x hx
  obtain ⟨a, h1, h2⟩ := h H enc w base spare held fuel cs x hx
  refine ⟨a, h1, ?_, h2⟩
  have hl := h1.1.1
  have hc : ∃ u, cs = [u] := by
    match cs, hl with
    | [u], _ => exact ⟨u, rfl⟩
  obtain ⟨u, rfl⟩ := hc
  have := rd_len (h1.1.2 0 u _ rfl rfl)
  simpa using this
end Go.Proofs.Ytniefocnfcaebaa.Av

namespace Go.Proofs.Ytniefocnfcaebaa.Av
open Go Go.RowKit
section
variable {P : Program} {N : Nat} {w0 : World} {U0 : Nat → Nat}
structure ARd (P : Program) (N : Nat) (w0 : World) (U0 : Nat → Nat) (c : Code) (R : Exit → AS → Prop) (n : Nat) (σ : AS) : Prop where
  goR : ∀ (rd : Option Nat) (ds : List Deferred) a w, St N w0 U0 σ a w → ∀ Q, (∀ e σ' a' w', R e σ' → St N w0 U0 σ' a' w' → Q e (dfs a' ds) w') → Code.roundsIn (FnR rd) 0 P c Q n (dfs a ds) w
theorem a_rounds (n : Nat) {c : Code} {R : Exit → AS → Prop} {σ : AS} (h : ARd P N w0 U0 c R n σ) : A P N w0 U0 (.loop c) R σ :=
  ⟨fun rd ds a w hs Q hQ => wpIn_loop_rounds n (h.goR rd ds a w hs Q hQ)⟩
theorem ard_succ {n : Nat} {c : Code} {R : Exit → AS → Prop} {σ : AS} (h : A P N w0 U0 c (thenR (ARd P N w0 U0 c R n) R) σ) : ARd P N w0 U0 c R (n + 1) σ := by
  refine ⟨fun rd ds a w hs Q hQ => ?_⟩
  rw [roundsIn_succ]
  refine h.goR rd ds a w hs _ (fun e σ' a' w' hr hs' => ?_)
  cases e with
  | normal => exact ARd.goR hr rd ds a' w' hs' Q hQ
  | _ => exact hQ _ _ _ _ hr hs'
def sLt (s u : ByteArray) : Bool := Op.bytesLess s.toList u.toList
end
end Go.Proofs.Ytniefocnfcaebaa.Av

namespace Go.Proofs.Ytniefocnfcaebaa.Av
open Go Go.RowKit
section
variable {P : Program} {N : Nat} {w0 : World} {U0 : Nat → Nat}
theorem imp_btnil {L : List (Nat × AV)} {M : List (Nat × Ob)} (m k0 : Nat) (e : TypeId) (z : Nat) {ty : TypeId} {cs : List OC} (hm : ln M m = .bt ty cs) (hk : cs[k0]? = some (.dv (.fl (.slice none 0 0)))) : Imp N w0 U0 (SS L M) (SS L ((m, .bt ty (cs.set k0 (.ow e z []))) :: M)) := by
  intro a w hs
  obtain ⟨F, hF⟩ := hs.f
  have hob := hF.n m
  rw [show (SS L M).n m = _ from hm] at hob
  obtain ⟨b, vs, T, k1, k2, k3, k4, k5, k6, k7⟩ := hob
  refine ⟨hs.d, hs.s, hs.b, F, hF.u, hF.t, fun k => ?_, fun k k' b h1 h2 h3 h4 => ?_⟩
  · show Rob _ w F k (bif Nat.beq m k then _ else ln M k)
    by_cases e1 : m = k
    · subst e1
      rw [Nat.beq_refl]
      refine ⟨b, vs, T, k1, k2, k3, k4, ⟨by rw [List.length_set]; exact k5.l, fun j u c h1 h2 => ?_, k5.o, k5.d, k5.b⟩, k6, k7⟩
      by_cases ej : k0 = j
      · subst ej
        have hl : k0 < cs.length := by
          rcases Nat.lt_or_ge k0 cs.length with h | h
          · exact h
          · rw [List.getElem?_eq_none h] at hk; cases hk
        rw [List.getElem?_set_self hl] at h2
        injection h2 with h2
        subst h2
        obtain ⟨g1, g2⟩ := k5.c k0 u _ h1 hk
        have hu : u = .slice none 0 0 := by cases g1; rfl
        subst hu
        exact ⟨[], World.ownsRow_nil _ _ _ _, ⟨Rds.nil, fun v hv => by cases hv⟩, (fun r hr => by cases hr), fun b' => ⟨fun h => (g2 b' h).elim, fun h => by cases h⟩, fun b' h => by cases h⟩
      · rw [List.getElem?_set_ne ej] at h2
        exact k5.c j u c h1 h2
    · rw [nbeq e1]; exact hF.n k
  · have g : ∀ j, ((SS L ((m, .bt ty (cs.set k0 (.ow e z []))) :: M)).n j).live = true → ((SS L M).n j).live = true := fun j hj => by
      by_cases e1 : m = j
      · subst e1; show (ln M m).live = true; rw [hm]; rfl
      · have hj' : (bif Nat.beq m j then _ else ln M j : Ob).live = true := hj
        rw [nbeq e1] at hj'; exact hj'
    exact hF.i k k' b (g k h1) (g k' h2) h3 h4
theorem op_takeBt {o : Oper} {σ : AS} {t : TypeId} {x : Operand} (m3 : Nat) (ho : o.op = .load t x) {d : TypeDesc} (hu : P.underlying t = some d) (ha : aggD d = false) {m p : Nat} (hx : (σ.ev x).ptOf = some (m, p)) {ty : TypeId} {cs : List OC} (hm : σ.n m = .bt ty cs) {e2 z2 : Nat} {rows2 : List (List DV)} (hv : cs[p]? = some (.ow e2 z2 rows2)) (hne : Nat.beq m3 m = false) (hd : dOk o N = true) :
    OpS P N w0 U0 o σ ⟨o.dst.map fun d => (d, .ow m3), [(m3, .tr e2 z2 (rows2.map (·.map .dv))), (m, .bt ty (cs.take p ++ [.un] ++ cs.drop (p + 1)))], [m], [m3]⟩ := by
  intro σ' hok a w hs K Q hK
  obtain ⟨F, hF⟩ := hs.f
  obtain ⟨g', h1, h2⟩ := pt_get hok hF (x := x) (by simp [ho, Op.operands]) hx
  have hm' : σ'.n m = .bt ty cs := by rw [hok.n m (by simp)]; exact hm
  have hjl := (List.getElem?_eq_some_iff.1 hv).1
  obtain ⟨vs, T, kB, kU, k3, k8, kT, kS⟩ := bt_get hF hm' h1
  have hk : p < vs.toList.length := by rw [k8.l]; exact hjl
  obtain ⟨u, hu'⟩ : ∃ u, vs.toList[p]? = some u := ⟨_, List.getElem?_eq_getElem hk⟩
  have hc : w.cell? ⟨g', p, none⟩ = some u := by rw [cell_of_row w g' p vs ty (0, 0) k3]; simpa using hu'
  obtain ⟨ys, y1, y2, y3, y4, y5⟩ := k8.c _ u _ hu' hv
  have hfr : fresh σ' m3 := hok.f m3 (by simp)
  have hmm : m ≠ m3 := fun h => by rw [h, Nat.beq_refl] at hne; cases hne
  have hlive : (σ'.n m).live = true := by rw [hm']; rfl
  have hrun : (execOp a.eval o).run P w = .ok (.value u) w := by simp [execOp, ho, h2, Instr.loadAt, Instr.sureAddr, run_load_one hu ha hc]
  obtain ⟨F', hF'⟩ : ∃ F' : Fr, F' = ⟨fun k => if k = m3 then none else F.β k, fun k => if k = m3 then u else F.γ k, F.U, fun k b => if k = m3 then T p b else if k = m then (b = g' ∨ ∃ q, q ≠ p ∧ T q b) else F.S k b⟩ := ⟨_, rfl⟩
  have hβ3 : F'.γ m3 = u := by rw [hF']; exact if_pos rfl
  have hβm : F'.β m = some g' := by rw [hF']; exact (if_neg hmm).trans h1
  have hU : F'.U = F.U := by rw [hF']
  have hS3 : ∀ b, F'.S m3 b ↔ T p b := fun b => by rw [hF']; show (if m3 = m3 then _ else _) ↔ _; rw [if_pos rfl]
  have hSm : ∀ b, F'.S m b ↔ (b = g' ∨ ∃ q, q ≠ p ∧ T q b) := fun b => by rw [hF']; show (if m = m3 then _ else if m = m then _ else _) ↔ _; rw [if_neg hmm, if_pos rfl]
  have hSk : ∀ k, k ≠ m3 → k ≠ m → ∀ b, F'.S k b ↔ F.S k b := fun k a1 a2 b => by rw [hF']; show (if k = m3 then _ else if k = m then _ else _) ↔ _; rw [if_neg a1, if_neg a2]
  have hnw : ∀ k, nwGet [(m3, Ob.tr e2 z2 (rows2.map (·.map OC.dv))), (m, Ob.bt ty (cs.take p ++ [OC.un] ++ cs.drop (p + 1)))] k = if k = m3 then some (.tr e2 z2 (rows2.map (·.map OC.dv))) else if k = m then some (.bt ty (cs.take p ++ [OC.un] ++ cs.drop (p + 1))) else none := by
    intro k
    unfold nwGet
    by_cases a1 : k = m3
    · subst a1; rw [Nat.beq_refl, if_pos rfl]; rfl
    · rw [nbeq (Ne.symm a1), if_neg a1]
      unfold nwGet
      by_cases a2 : k = m
      · subst a2; rw [Nat.beq_refl, if_pos rfl]; rfl
      · rw [nbeq (Ne.symm a2), if_neg a2]; rfl
  have hsub : ∀ b, T p b → F.S m b := fun b hb => (kS b).2 (.inr ⟨_, hb⟩)
  have hb := hF.big (F' := F') (w' := w) (tw := o.dst.map fun d => (d, .ow m3)) (nw := [(m3, .tr e2 z2 (rows2.map (·.map .dv))), (m, .bt ty (cs.take p ++ [.un] ++ cs.drop (p + 1)))]) (by rw [hU]; exact Ext.rfl) (fun b _ => by rw [hU])
    (fun k hk => by
      rw [hnw] at hk
      have a1 : k ≠ m3 := fun h => by rw [if_pos h] at hk; cases hk
      rw [if_neg a1] at hk
      have a2 : k ≠ m := fun h => by rw [if_pos h] at hk; cases hk
      exact ⟨by rw [hF']; exact if_neg a1, by rw [hF']; exact if_neg a1, hSk k a1 a2⟩)
    (fun k hk => by
      rw [hnw] at hk
      by_cases a1 : k = m3
      · right; rw [a1]; exact hfr
      · left; exact ⟨by rw [hF']; exact if_neg a1, by rw [hF']; exact if_neg a1⟩)
    (fun k hl hk b hb hlt => ⟨rfl, by rw [hU]⟩)
    (fun k ob hk => by
      rw [hnw] at hk
      by_cases a1 : k = m3
      · rw [if_pos a1] at hk
        injection hk with hk
        subst hk a1
        refine ⟨ys, fun _ _ => False, by rw [hβ3, List.length_map]; exact y1, by rw [flat_map_dv, hU]; exact Tcs.ofRc y2, fun r' hr' => ?_, fun b hb => ⟨?_, fun _ => id⟩, fun b => ?_⟩
        · obtain ⟨r'', h3, rfl⟩ := List.mem_map.1 hr'
          simpa using y3 r'' h3
        · rw [hU]; rw [hβ3] at hb; exact y5 b hb
        · rw [hS3, hβ3, y4 b]
          exact ⟨.inl, fun h => h.elim id (fun ⟨_, h⟩ => h.elim)⟩
      · rw [if_neg a1] at hk
        by_cases a2 : k = m
        · rw [if_pos a2] at hk
          injection hk with hk
          subst hk a2
          refine ⟨g', vs, fun q b => q ≠ p ∧ T q b, hβm, kB, by rw [hU]; exact kU, k3, ?_, fun q h => kT q h.2, fun b => by rw [hSm]⟩
          rw [hU]
          have hcl := k8.l
          have hcs : ∀ q, (cs.take p ++ [OC.un] ++ cs.drop (p + 1))[q]? = if q = p then some .un else cs[q]? := by
            intro q
            rcases Nat.lt_trichotomy q p with hq | hq | hq
            · rw [if_neg (by omega), List.append_assoc, List.getElem?_append_left (by simp; omega), List.getElem?_take_of_lt hq]
            · subst hq
              rw [if_pos rfl, List.append_assoc, List.getElem?_append_right (by simp; omega)]
              simp
              rw [Nat.min_eq_left (by omega)]
              simp
            · rw [if_neg (by omega), List.getElem?_append_right (by simp; omega), List.getElem?_drop]
              congr 1
              simp
              omega
          refine ⟨by have := hcl; simp only [List.length_append, List.length_take, List.length_drop, List.length_singleton]; omega, fun q v c hv' hc' => ?_, k8.o, fun q q' b h1 h2 => k8.d q q' b h1.2 h2.2, fun q b h1 => k8.b q b h1.2⟩
          rw [hcs] at hc'
          by_cases hq : q = p
          · rw [if_pos hq] at hc'
            injection hc' with hc'
            subst hc'
            exact fun b hb => hb.1 hq
          · rw [if_neg hq] at hc'
            have := k8.c q v c hv' hc'
            have e1 : (fun b => q ≠ p ∧ T q b) = T q := by funext b; exact propext ⟨fun h => h.2, fun h => ⟨hq, h⟩⟩
            rw [e1]
            exact this
        · rw [if_neg a2] at hk; cases hk)
    (fun k ob k' b hk hl hk' hl' hb hb' => by
      have hS : F.S m b := by
        rw [hnw] at hk
        by_cases a1 : k = m3
        · subst a1; exact hsub b ((hS3 b).1 hb)
        · rw [if_neg a1] at hk
          by_cases a2 : k = m
          · subst a2
            rcases (hSm b).1 hb with h | ⟨q, _, h⟩
            · exact (kS b).2 (.inl h)
            · exact (kS b).2 (.inr ⟨q, h⟩)
          · rw [if_neg a2] at hk; cases hk
      have := hF.i m k' b hlive hl' hS hb'
      rw [hnw] at hk'
      subst this
      rw [if_neg hmm, if_pos rfl] at hk'
      cases hk')
    (fun k ob k' ob' b hk hl hk' hl' hb hb' => by
      rw [hnw] at hk hk'
      have no : ∀ b, T p b → (b = g' ∨ ∃ q, q ≠ p ∧ T q b) → False := fun b h3 h4 => by
        rcases h4 with h4 | ⟨q, h4, h5⟩
        · subst h4; exact kT _ h3
        · exact h4 (k8.d q _ b h5 h3)
      by_cases a1 : k = m3
      · by_cases a1' : k' = m3
        · rw [a1, a1']
        · rw [if_neg a1'] at hk'
          by_cases a2' : k' = m
          · subst a1 a2'; exact (no b ((hS3 b).1 hb) ((hSm b).1 hb')).elim
          · rw [if_neg a2'] at hk'; cases hk'
      · rw [if_neg a1] at hk
        by_cases a2 : k = m
        · by_cases a1' : k' = m3
          · subst a2 a1'; exact (no b ((hS3 b).1 hb') ((hSm b).1 hb)).elim
          · rw [if_neg a1'] at hk'
            by_cases a2' : k' = m
            · rw [a2, a2']
            · rw [if_neg a2'] at hk'; cases hk'
        · rw [if_neg a2] at hk; cases hk)
    (a' := a.put o.dst u) (hta_put hd hs.s (.ow m3) u).1 (fun d v h => by
      obtain ⟨rfl, h3⟩ := (hta_put hd hs.s (.ow m3) u).2 d v h
      rw [h3]
      exact hβ3.symm) [m] [m3]
  unfold Oper.wp
  rw [hrun]
  exact hK _ _ ⟨by rw [put_defers]; exact hs.d, by rw [put_size]; exact hs.s, hs.b, _, hb⟩
end
end Go.Proofs.Ytniefocnfcaebaa.Av

namespace Go.Proofs.Ytniefocnfcaebaa.Av
open Go Go.RowKit ChangeMaps
section
variable {P : Program} {N : Nat} {w0 : World} {U0 : Nat → Nat}
end
end Go.Proofs.Ytniefocnfcaebaa.Av

namespace Go.Proofs.Ytniefocnfcaebaa.Av
open Go Go.RowKit Go.ChangeMaps
def mput (td : TypeDesc) (k : Value) (d : DV) : List (Value × DV) → List (Value × DV)
  | [] => [(k, d)]
  | x :: xs => match Instr.sameNow td k x.1 with
    | some true => (k, d) :: xs
    | _ => x :: mput td k d xs
section
variable {P : Program} {N : Nat} {w0 : World} {U0 : Nat → Nat}
end
end Go.Proofs.Ytniefocnfcaebaa.Av
