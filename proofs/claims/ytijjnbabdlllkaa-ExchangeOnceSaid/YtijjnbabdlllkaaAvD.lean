/- Rules for states of data. Conditions: as each theorem names them. -/
import Derived.Test.YtijjnbabdlllkaaAvC
import Derived.Laws.Shifts
import Derived.Laws.Unary
import Derived.Laws.Entries
import Derived.Lib.ConvBytes
import Derived.Lib.AppendStr
import Derived.Laws.IdiomCopy
import Derived.Laws.MakeOwn
import Derived.Laws.Slices
import Derived.LoopN
set_option linter.unusedSimpArgs false
set_option linter.unusedVariables false
namespace Go.Proofs.Ytijjnbabdlllkaa.Av
open Go Go.RowKit
section
variable {P : Program} (t : TypeId) (k yk : IntKind) (a b : Int) (x y : Operand) (w : World)
end
end Go.Proofs.Ytijjnbabdlllkaa.Av

namespace Go.Proofs.Ytijjnbabdlllkaa.Av
open Go Go.RowKit
section
variable {P : Program} {N : Nat} {w0 : World} {U0 : Nat → Nat}
end
end Go.Proofs.Ytijjnbabdlllkaa.Av

namespace Go.Proofs.Ytijjnbabdlllkaa.Av
open Go Go.RowKit
def CtrT (P : Program) (f : FuncId) (e : TypeId) (z : Nat) (rows : List (List OC)) (args : List DV) (rows' : List (List OC)) : Prop :=
  ∀ (v : Value) (vals : List Value) (U : Nat → Nat) (S0 : Nat → Prop) (w : World), Rob 0 w (thF none v U S0) 0 (.tr e z rows) → Rds w U vals args →
    Calls P f (v :: vals).toArray w fun ex w' => ∃ rv U' S', ex = .returned rv ∧ Below 0 (bare w) w' ∧ (∀ g, g < w.heap.size → ¬ S0 g → w'.heap[g]? = w.heap[g]? ∧ U' g = U g) ∧ (∀ g, S' g → S0 g ∨ w.heap.size ≤ g) ∧ Rob 0 w' (thF none rv U' S') 0 (.tr e z rows')
section
variable {P : Program} {N : Nat} {w0 : World} {U0 : Nat → Nat}
def retT (t : Nat) (e : TypeId) (z : Nat) (rows' : List (List OC)) (H : World) (V : Nat → Nat) (Q : Nat → Prop) : Exit → AS → Prop
  | .normal, σ | .ret, σ => ∃ m, m ≠ 1 ∧ σ.t t = .ow m ∧ σ.n m = .tr e z rows' ∧ σ.n 1 = .pin H V Q
  | _, _ => False
theorem ctrT {f : FuncId} {fn : Func} {c : Code} {e : TypeId} {z : Nat} {rows rows' : List (List OC)} {args : List DV} {n t : Nat} {L : List (Nat × AV)} (hf : P.funcs[f]? = some fn) (hb : fn.body = some c) (hn : fn.ntmps = n) (hr : fn.results = #[.tmp t]) (hl : Nat.ble (args.length + 1) n = true) (hL : args0 args 1 = L)
    (h : ∀ w0 U0 H V Q, A P n w0 U0 c (retT t e z rows' H V Q) (SS ((0, .ow 0) :: L) [(0, .tr e z rows), (1, .pin H V Q)])) : CtrT P f e z rows args rows' := by
  subst hn
  subst hL
  intro v vals U S0 w hob hR
  have hle := Nat.le_of_ble_eq_true hl
  have hsz : ((v :: vals).toArray ++ Array.replicate (fn.ntmps - (v :: vals).toArray.size) undef).size = fn.ntmps := by have := hR.1; simp; omega
  let F : Fr := ⟨fun _ => none, fun _ => v, U, fun j g => if j = 0 then S0 g else (g < w.heap.size ∧ ¬ S0 g)⟩
  have hget : ∀ t, ((v :: vals).toArray ++ Array.replicate (fn.ntmps - (v :: vals).toArray.size) undef).getD t undef = if t = 0 then v else if h : t - 1 < vals.length then vals[t - 1] else undef := by
    intro t
    cases t with
    | zero =>
      rw [Array.getD_eq_getD_getElem?, Array.getElem?_append_left (by simp)]
      simp
    | succ t =>
      rw [Array.getD_eq_getD_getElem?]
      rcases Nat.lt_or_ge t vals.length with ht | ht
      · rw [Array.getElem?_append_left (by simp; omega)]
        simp [ht]
      · rw [Array.getElem?_append_right (by simp; omega), Array.getElem?_replicate]
        simp only [Nat.add_one_ne_zero, if_false]
        rw [dif_neg (by omega)]
        split <;> rfl
  have hfit : Fits (bare w) U (SS ((0, AV.ow 0) :: args0 args 1) [(0, .tr e z rows), (1, .pin w U (fun g => g < w.heap.size ∧ ¬ S0 g))]) ⟨(v :: vals).toArray ++ Array.replicate (fn.ntmps - (v :: vals).toArray.size) undef, []⟩ w F := by
    refine ⟨fun b hb => rfl, fun t => ?_, fun m => ?_, fun m m' b h1 h2 h3 h4 => ?_⟩
    · show Rav w F (bif Nat.beq 0 t then AV.ow 0 else lk (args0 args 1) t) _
      rw [hget]
      cases t with
      | zero => rw [Nat.beq_refl, if_pos rfl]; rfl
      | succ t =>
        rw [nbeq (by omega), cond_false, args0_get, if_neg (by omega)]
        split
        · rename_i ht
          have hl := hR.1
          have ht' : t < args.length := by have := ht.2; omega
          simp only [Nat.add_sub_cancel]
          rw [dif_pos (by omega)]
          exact hR.2 t _ _ (List.getElem?_eq_getElem (by omega)) (List.getElem?_eq_getElem ht')
        · trivial
    · show Rob 0 w F m (bif Nat.beq 0 m then Ob.tr e z rows else bif Nat.beq 1 m then .pin w U _ else .no)
      by_cases h0 : m = 0
      · subst h0
        rw [Nat.beq_refl]
        exact hob.move (k := .r) rfl (fun _ => rfl) (fun _ => rfl) (fun b => by simp [F, thF]) rfl
      · rw [nbeq (Ne.symm h0), cond_false]
        by_cases h1 : m = 1
        · subst h1
          rw [Nat.beq_refl]
          exact ⟨fun b => by simp [F], fun b hq => ⟨Nat.zero_le _, hq.1, rfl, rfl⟩⟩
        · rw [nbeq (Ne.symm h1), cond_false]; trivial
    · have key : ∀ m, ((SS ((0, AV.ow 0) :: args0 args 1) [(0, .tr e z rows), (1, .pin w U (fun g => g < w.heap.size ∧ ¬ S0 g))]).n m).live = true → m = 0 ∨ m = 1 := by
        intro m hm
        by_cases h0 : m = 0
        · exact .inl h0
        · by_cases h1 : m = 1
          · exact .inr h1
          · have : (SS ((0, AV.ow 0) :: args0 args 1) [(0, .tr e z rows), (1, .pin w U (fun g => g < w.heap.size ∧ ¬ S0 g))]).n m = .no := by
              show (bif Nat.beq 0 m then Ob.tr e z rows else bif Nat.beq 1 m then _ else .no) = _
              rw [nbeq (Ne.symm h0), cond_false, nbeq (Ne.symm h1), cond_false]
            rw [this] at hm; cases hm
      rcases key m h1 with rfl | rfl <;> rcases key m' h2 with rfl | rfl
      · rfl
      · have g1 : S0 b := h3
        have g2 : b < w.heap.size ∧ ¬ S0 b := h4
        exact absurd g1 g2.2
      · have g1 : S0 b := h4
        have g2 : b < w.heap.size ∧ ¬ S0 b := h3
        exact absurd g1 g2.2
      · rfl
  refine calls_of_wp hf hb ((h (bare w) U w U (fun g => g < w.heap.size ∧ ¬ S0 g)).go _ w ⟨rfl, hsz, ⟨rfl, rfl, rfl, Nat.zero_le _, fun k hk => by have : k < 0 := hk; omega⟩, F, hfit⟩ _ (fun ex σ' a' w' hrr hs' => ?_))
  have key : (∃ m, m ≠ 1 ∧ σ'.t t = .ow m ∧ σ'.n m = .tr e z rows' ∧ σ'.n 1 = .pin w U (fun g => g < w.heap.size ∧ ¬ S0 g)) → a'.defers = [] ∧ ∃ x, (results fn a'.tmps).run P w' = .ok x w' ∧ ∃ rv U' S', Ending.returned x = .returned rv ∧ Below 0 (bare w) w' ∧ (∀ g, g < w.heap.size → ¬ S0 g → w'.heap[g]? = w.heap[g]? ∧ U' g = U g) ∧ (∀ g, S' g → S0 g ∨ w.heap.size ≤ g) ∧ Rob 0 w' (thF none rv U' S') 0 (.tr e z rows') := by
    rintro ⟨m, hm1, ht0, hn0, hn1⟩
    obtain ⟨F', hF⟩ := hs'.f
    have hp := hF.n 1
    rw [hn1] at hp
    obtain ⟨hp1, hp2⟩ := hp
    have ho : Rob 0 w' F' m (.tr e z rows') := by have := hF.n m; rwa [hn0] at this
    have hl0 : (σ'.n m).live = true := by rw [hn0]; rfl
    have hl1 : (σ'.n 1).live = true := by rw [hn1]; rfl
    have hav : a'.tmps.getD t undef = F'.γ m := by have := hF.t t; rw [ht0] at this; exact this
    refine ⟨hs'.d, a'.tmps.getD t undef, ?_, _, F'.U, F'.S m, rfl, hs'.b, fun g hg hS => ?_, fun g hg => ?_, ?_⟩
    · have hres : results fn a'.tmps = (fn.results.mapM (resVal a') >>= fun vs => pure (if h : vs.size = 1 then vs[0] else .tuple vs)) := rfl
      rw [hres, hr]
      simp [resVal, Act.eval]
    · obtain ⟨_, _, g3, g4⟩ := hp2 g ⟨hg, hS⟩
      exact ⟨g3, g4⟩
    · by_cases hS : S0 g
      · exact .inl hS
      · by_cases hlt : g < w.heap.size
        · exact absurd (hF.i m 1 g hl0 hl1 hg ((hp1 g).2 ⟨hlt, hS⟩)) hm1
        · exact .inr (by omega)
    · exact ho.move (k := .r) rfl (fun hk => by cases hk) (fun _ => by show a'.tmps.getD t undef = F'.γ m; exact hav) (fun b => Iff.rfl) rfl
  cases ex with
  | normal => exact key hrr
  | ret => exact key hrr
  | _ => exact hrr.elim
theorem op_callT {o : Oper} {σ : AS} {f : FuncId} {args : Array Operand} {ats : Array TypeId} (m : Nat) {m0 : Nat} (ho : o.op = .call { callee := .value (.func f), args := args, argTypes := ats }) {fn : Func} (hf : P.funcs[f]? = some fn) (hn : (fn.name == "runtime.NumGoroutine") = false) (hb : fn.body.isNone = false)
    {x : Operand} {xs : List Operand} (hxs : args.toList = x :: xs) (hx : σ.ev x = .ow m0) {e : TypeId} {z : Nat} {rows rows' : List (List OC)} (hm : σ.n m0 = .tr e z rows) {ds : List DV} {rns : List Nat} (ha : ArgsS σ xs ds rns) (hc : CtrT P f e z rows ds rows') (hd : dOk o N = true) :
    OpS P N w0 U0 o σ ⟨o.dst.map fun d => (d, .ow m), (m, .tr e z rows') :: [m0].map (fun q => (q, Ob.no)), m0 :: rns, [m]⟩ := by
  intro σ' hok a w hs K Q hK
  obtain ⟨F, hF⟩ := hs.f
  have hmem : ∀ y ∈ args.toList, σ'.ev y = σ.ev y := fun y hy => ev_ok hok (by simp [ho, Op.operands, Call.operands]; exact .inr (by simpa using hy))
  have hR := ha.get hF (fun j hj => hok.n j (by simp [hj])) (fun y hy => hmem y (by rw [hxs]; simp [hy]))
  have hm' : σ'.n m0 = .tr e z rows := (hok.n m0 (by simp)).trans hm
  have hv : a.eval x = F.γ m0 := by have := hF.ev x; rw [hmem x (by rw [hxs]; simp), hx] at this; exact this
  have hob : Rob w0.heap.size w F m0 (.tr e z rows) := by have := hF.n m0; rwa [hm'] at this
  have hlm : (σ'.n m0).live = true := by rw [hm']; rfl
  have hSB : ∀ b, F.S m0 b → w0.heap.size ≤ b ∧ b < w.heap.size := fun b hb => hob.lt rfl hb
  have hob0 : Rob 0 w (thF none (a.eval x) F.U (F.S m0)) 0 (.tr e z rows) := (hob.debase (k := .r) rfl).move (k := .r) rfl (fun hk => by cases hk) (fun _ => hv) (fun _ => Iff.rfl) rfl
  have hcall := hc (a.eval x) _ F.U (F.S m0) w hob0 hR
  unfold Oper.wp
  have hex : (execOp a.eval o).run P w = .ok (.enter f (a.eval x :: xs.map a.eval).toArray) w := by
    unfold execOp
    simp only [ho, resolve, Act.eval, Deferred.ofValue, invoke, Sem.run_bind, Sem.run_pure, Result.andThen_ok]
    have e1 : (#[] ++ Array.map a.eval args ++ #[] : Array Value) = (a.eval x :: xs.map a.eval).toArray := by
      apply Array.ext'
      simp [hxs]
    rw [e1]
    exact run_call hf hn hb _ w
  rw [hex, Oper.upon_enter]
  refine Calls.mono hcall ?_
  rintro ex w' ⟨rv, U', S', rfl, h1, h2, h3, h4⟩
  have hB := hs.b.size
  have hE : Ext w F.U w' U' := by
    refine ⟨fun b o u hc ho => ?_, fun q es c hq hu => ?_⟩
    · have hlt := World.block_lt_of_cell? w _ hc
      have hnS : ¬ F.S m0 b := fun hb => by have := hob.zero (k := .r) rfl hb; omega
      obtain ⟨g1, g2⟩ := h2 b hlt hnS
      exact ⟨(World.cell?_of_block g1).trans hc, by rw [g2]; exact ho⟩
    · have hlt : q < w.heap.size := (Array.getElem?_eq_some_iff.1 hq).1
      have hnS : ¬ F.S m0 q := fun hb => by have := hob.zero (k := .r) rfl hb; omega
      exact h2 q hlt hnS
  have hold : ∀ b, b < w0.heap.size → w'.heap[b]? = w.heap[b]? ∧ U' b = F.U b := fun b hb => h2 b (by omega) (fun hS => by have := (hSB b hS).1; omega)
  have hsz : w0.heap.size ≤ w'.heap.size := by
    rcases Nat.eq_zero_or_pos w0.heap.size with hz | hz
    · omega
    · have h6 := (hold (w0.heap.size - 1) (by omega)).1
      rw [Array.getElem?_eq_getElem (show w0.heap.size - 1 < w.heap.size by omega)] at h6
      have := (Array.getElem?_eq_some_iff.1 h6).1
      omega
  have hfit := hF.make (m := m) (ob := .tr e z rows') (ks := [m0]) (γv := rv) (βv := none) (Sm := S') (U' := U') (w' := w') (a' := a.put o.dst rv) (tw := o.dst.map fun d => (d, .ow m)) (hok.f m (by simp)) hE (fun b hb => (hold b hb).2)
    (fun k b hl hk hb hlt => h2 b hlt (fun hS => hk (by rw [hF.i k m0 b hl hlm hb hS]; simp)))
    (fun b hb => by
      rcases h3 b hb with h6 | h6
      · exact .inr ⟨m0, by simp, hlm, h6⟩
      · exact .inl h6)
    (by
      refine Rob.rebase (k := .r) rfl (h4.move (k := .r) rfl (fun hk => by cases hk) (fun _ => by simp [thF]) (fun b => by simp [thF]) rfl) (fun b hb => ?_)
      have hb' : S' b := by simpa using hb
      rcases h3 b hb' with h6 | h6
      · exact (hSB b h6).1
      · omega)
    (hta_put hd hs.s (.ow m) rv).1 (fun d v' h => by
      obtain ⟨rfl, h3⟩ := (hta_put hd hs.s (.ow m) rv).2 d v' h
      rw [h3]; exact (if_pos rfl).symm) (m0 :: rns) [m]
  exact hK _ _ ⟨by rw [put_defers]; exact hs.d, by rw [put_size]; exact hs.s, ⟨h1.os.trans hs.b.os, h1.tape.trans hs.b.tape, h1.output.trans hs.b.output, hsz, fun b hb => (hold b hb).1.trans (hs.b.block b hb)⟩, _, hfit⟩
end
end Go.Proofs.Ytijjnbabdlllkaa.Av

namespace Go.Proofs.Ytijjnbabdlllkaa.Av
open Go Go.RowKit
def bys (s : ByteArray) : List Int := s.data.toList.map fun b => (b.toNat : Int)
section
variable {P : Program} {N : Nat} {w0 : World} {U0 : Nat → Nat}
theorem op_rowNew {o : Oper} {σ : AS} {e : TypeId} (m : Nat) {rows : List (List DV)} {z : Nat} {rn : List Nat} (hd : dOk o N = true) (hz : ∀ r ∈ rows, r.length = z)
    (h : ∀ σ', (⟨o.dst.map fun d => (d, .ow m), (m, .tr e z (rows.map (·.map .dv))) :: ([] : List Nat).map (fun q => (q, Ob.no)), rn, [m]⟩ : Eff).ok o σ σ' → ∀ a w F, Fits w0 U0 σ' a w F → w0.heap.size ≤ w.heap.size →
      ∃ c cur, (execOp a.eval o).run P w = .ok (.value (.slice (some ⟨w.heap.size, 0, none⟩) rows.length c)) (w.alloc (.cells cur e)) ∧ rows.length ≤ c ∧ c ≤ maxLen ∧ cur.size = c * z ∧ Rc w F.U (cur.toList.take (rows.length * z)) rows.flatten) :
    OpS P N w0 U0 o σ ⟨o.dst.map fun d => (d, .ow m), (m, .tr e z (rows.map (·.map .dv))) :: ([] : List Nat).map (fun q => (q, Ob.no)), rn, [m]⟩ := by
  intro σ' hok a w hst K Q hK
  obtain ⟨F, hF⟩ := hst.f
  obtain ⟨c, cur, hex, h1, h2, h3, h4⟩ := h σ' hok a w F hF hst.b.size
  unfold Oper.wp
  rw [hex]
  have hU2 : ∀ b, b < w.heap.size → (fun b => if b = w.heap.size then 0 else F.U b) b = F.U b := fun b hb => by simp; intro h; omega
  have hE : Ext w F.U (w.alloc (.cells cur e)) (fun b => if b = w.heap.size then 0 else F.U b) := Up.ext ⟨fun b hlt => Below.heap_alloc w _ b hlt, hU2⟩
  have hlen : (rows.map (·.map OC.dv)).length = rows.length := by simp
  have hxl : (cur.toList.take (rows.length * z)).length = rows.length * z := by
    have := Nat.mul_le_mul_right z h1
    simp; omega
  have hfit := hF.make (m := m) (ob := .tr e z (rows.map (·.map .dv))) (ks := []) (γv := .slice (some ⟨w.heap.size, 0, none⟩) rows.length c) (βv := none) (Sm := fun b => b = w.heap.size) (U' := fun b => if b = w.heap.size then 0 else F.U b) (w' := w.alloc (.cells cur e)) (a' := a.put o.dst (.slice (some ⟨w.heap.size, 0, none⟩) rows.length c)) (tw := o.dst.map fun d => (d, .ow m)) (hok.f m (by simp)) hE (fun b hb => hU2 b (by have := hst.b.size; omega)) (fun k b _ _ _ hlt => ⟨Below.heap_alloc w _ b hlt, hU2 b hlt⟩) (fun b h => .inl (by omega))
    ⟨cur.toList.take (rows.length * z), fun _ _ => False, by
      simp only [↓reduceIte, hlen]
      exact ⟨hxl, .inr ⟨w.heap.size, c, cur, rfl, hst.b.size, Go.heap_alloc_new w _, h1, h2, h3, rfl⟩⟩, by rw [flat_map_dv]; exact Tcs.ofRc (h4.ext hE), (fun r hr => by
      obtain ⟨r', h5, rfl⟩ := List.mem_map.1 hr
      simpa using hz r' h5), fun b hb => by
      simp only [↓reduceIte] at hb
      injection hb with hb
      subst hb
      exact ⟨by simp, fun _ h => h⟩, fun b => by
      simp only [↓reduceIte]
      constructor
      · intro h; exact .inl (by rw [h]; rfl)
      · rintro (h | ⟨_, h⟩)
        · injection h with h; exact h.symm
        · exact h.elim⟩
    (hta_put hd hst.s (.ow m) _).1 (fun d v h => by
      obtain ⟨rfl, h3⟩ := (hta_put hd hst.s (.ow m) (.slice (some ⟨w.heap.size, 0, none⟩) rows.length c)).2 d v h
      rw [h3]; exact (if_pos rfl).symm) rn [m]
  exact hK _ _ ⟨by rw [put_defers]; exact hst.d, by rw [put_size]; exact hst.s, hst.b.alloc hst.b.size _, _, hfit⟩
theorem size_madeCells' (z : Array Value) (n : Nat) : (madeCells z n).size = n := by simp [madeCells]
end
end Go.Proofs.Ytijjnbabdlllkaa.Av

namespace Go.Proofs.Ytijjnbabdlllkaa.Av
open Go Go.RowKit
section
variable {P : Program} {N : Nat} {w0 : World} {U0 : Nat → Nat}
theorem setCells_sz (b : Nat) : ∀ (vs : List Value) (o : Nat) (w : World), (w.setCells b o vs).heap.size = w.heap.size
  | [], _, _ => rfl
  | v :: vs, o, w => by
    show ((w.setCell ⟨b, o, none⟩ v).setCells b (o + 1) vs).heap.size = _
    rw [setCells_sz b vs]; simp [World.setCell]
end
end Go.Proofs.Ytijjnbabdlllkaa.Av

namespace Go.Proofs.Ytijjnbabdlllkaa.Av
open Go Go.RowKit
theorem tD_ok {α : Type} {f : α → List DV} {l : List α} : ∀ r ∈ tD f l, ∀ c ∈ r, c.ok = true := by
  intro r hr c hc
  obtain ⟨y, hy, rfl⟩ := List.mem_map.1 hr
  obtain ⟨x, hx, rfl⟩ := List.mem_map.1 hc
  rfl
theorem tD_rd {α : Type} {f : α → List DV} {l : List α} : (tD f l).map (·.map OC.rd) = l.map f := by
  unfold tD
  rw [List.map_map, List.map_map]
  apply List.map_congr_left
  intro x _
  show ((f x).map OC.dv).map OC.rd = f x
  rw [List.map_map]
  exact List.map_id _
section
variable {P : Program} {N : Nat} {w0 : World} {U0 : Nat → Nat}
theorem imp_leakT {L : List (Nat × AV)} {M : List (Nat × Ob)} (t m : Nat) {e : TypeId} {z : Nat} {α : Type} {f : α → List DV} {l : List α} (ht : lk L t = .ow m) (hm : ln M m = .tr e z (tD f l)) : Imp N w0 U0 (SS L M) (SS ((t, .d (.sl z (l.map f))) :: L) ((m, .no) :: M)) :=
  imp_leakE t m ht hm tD_ok tD_rd
end
end Go.Proofs.Ytijjnbabdlllkaa.Av

namespace Go.Proofs.Ytijjnbabdlllkaa.Av
open Go Go.RowKit
def cI (k : IntKind) (x : Int) : DV := .fl (.int k x)
section
variable {P : Program} {N : Nat} {w0 : World} {U0 : Nat → Nat}
end
end Go.Proofs.Ytijjnbabdlllkaa.Av

namespace Go.Proofs.Ytijjnbabdlllkaa.Av
open Go Go.RowKit
def RresW (w : World) (U : Nat → Nat) (B : Nat) (v : Value) (e : TypeId) (z : Nat) (rows : List (List DV)) : Prop :=
  ∃ xs, w.ownsRow B e z v rows.length xs ∧ Rc w U xs rows.flatten ∧ (∀ r ∈ rows, r.length = z) ∧ ∀ b, v.ownBlock = some b → U b = rows.length * z
def CtrW (P : Program) (f : FuncId) (args : List DV) (e : TypeId) (z : Nat) (rows : List (List DV)) : Prop :=
  ∀ (vals : List Value) (U : Nat → Nat) (w : World), Rds w U vals args → Calls P f vals.toArray w fun ex w' => ∃ v U', ex = .returned v ∧ Below w.heap.size w w' ∧ (∀ b, b < w.heap.size → U' b = U b) ∧ RresW w' U' w.heap.size v e z rows
section
variable {P : Program} {N : Nat} {w0 : World} {U0 : Nat → Nat}
end
end Go.Proofs.Ytijjnbabdlllkaa.Av

namespace Go.Proofs.Ytijjnbabdlllkaa.Av
open Go Go.RowKit
section
variable {P : Program} {N : Nat} {w0 : World} {U0 : Nat → Nat}
end
end Go.Proofs.Ytijjnbabdlllkaa.Av

namespace Go.Proofs.Ytijjnbabdlllkaa.Av
open Go Go.RowKit
theorem rd_len {w : World} {U : Nat → Nat} {v : Value} {z : Nat} {rows : List (List DV)} (h : Rd w U v (.sl z rows)) : rows.length ≤ 9223372036854775807 := by
  cases h with
  | sn A c => simp
  | sl b off n c _ _ u hn hzz hm hcell hrr => omega
theorem opens_len {P : Program} {t : TypeId} {z : Nat} {α : Type} {f : α → List DV} {ok : List α → Prop} (h : Opens P t (rL z f) ok) : Opens P t (rL z f) (fun l => l.length ≤ 9223372036854775807 ∧ ok l) := by
  intro H enc w base spare held fuel cs x hx
  obtain ⟨a, h1, h2⟩ := h H enc w base spare held fuel cs x hx
  refine ⟨a, h1, ?_, h2⟩
  have hl := h1.1.1
  have hc : ∃ u, cs = [u] := by
    match cs, hl with
    | [u], _ => exact ⟨u, rfl⟩
  obtain ⟨u, rfl⟩ := hc
  have := rd_len (h1.1.2 0 u _ rfl rfl)
  simpa using this
end Go.Proofs.Ytijjnbabdlllkaa.Av

namespace Go.Proofs.Ytijjnbabdlllkaa.Av
open Go Go.RowKit
section
variable {P : Program} {N : Nat} {w0 : World} {U0 : Nat → Nat}
structure ARd (P : Program) (N : Nat) (w0 : World) (U0 : Nat → Nat) (c : Code) (R : Exit → AS → Prop) (n : Nat) (σ : AS) : Prop where
  go : ∀ a w, St N w0 U0 σ a w → ∀ Q, (∀ e σ' a' w', R e σ' → St N w0 U0 σ' a' w' → Q e a' w') → Code.rounds P c Q n a w
theorem ard_succ {n : Nat} {c : Code} {R : Exit → AS → Prop} {σ : AS} (h : A P N w0 U0 c (thenR (ARd P N w0 U0 c R n) R) σ) : ARd P N w0 U0 c R (n + 1) σ := by
  refine ⟨fun a w hs Q hQ => ?_⟩
  rw [rounds_succ]
  refine h.go a w hs _ (fun e σ' a' w' hr hs' => ?_)
  cases e with
  | normal => exact ARd.go hr a' w' hs' Q hQ
  | _ => exact hQ _ _ _ _ hr hs'
def sLt (s u : ByteArray) : Bool := Op.bytesLess s.toList u.toList
end
end Go.Proofs.Ytijjnbabdlllkaa.Av

namespace Go.Proofs.Ytijjnbabdlllkaa.Av
open Go Go.RowKit
section
variable {P : Program} {N : Nat} {w0 : World} {U0 : Nat → Nat}
theorem imp_btnil {L : List (Nat × AV)} {M : List (Nat × Ob)} (m k0 : Nat) (e : TypeId) (z : Nat) {ty : TypeId} {cs : List OC} (hm : ln M m = .bt ty cs) (hk : cs[k0]? = some (.dv (.fl (.slice none 0 0)))) : Imp N w0 U0 (SS L M) (SS L ((m, .bt ty (cs.set k0 (.ow e z []))) :: M)) := by
  intro a w hs
  obtain ⟨F, hF⟩ := hs.f
  have hob := hF.n m
  rw [show (SS L M).n m = _ from hm] at hob
  obtain ⟨b, vs, T, k1, k2, k3, k4, k5, k6, k7⟩ := hob
  refine ⟨hs.d, hs.s, hs.b, F, hF.u, hF.t, fun k => ?_, fun k k' b h1 h2 h3 h4 => ?_⟩
  · show Rob _ w F k (bif Nat.beq m k then _ else ln M k)
    by_cases e1 : m = k
    · subst e1
      rw [Nat.beq_refl]
      refine ⟨b, vs, T, k1, k2, k3, k4, ⟨by rw [List.length_set]; exact k5.l, fun j u c h1 h2 => ?_, k5.o, k5.d, k5.b⟩, k6, k7⟩
      by_cases ej : k0 = j
      · subst ej
        have hl : k0 < cs.length := by
          rcases Nat.lt_or_ge k0 cs.length with h | h
          · exact h
          · rw [List.getElem?_eq_none h] at hk; cases hk
        rw [List.getElem?_set_self hl] at h2
        injection h2 with h2
        subst h2
        obtain ⟨g1, g2⟩ := k5.c k0 u _ h1 hk
        have hu : u = .slice none 0 0 := by cases g1; rfl
        subst hu
        exact ⟨[], World.ownsRow_nil _ _ _ _, ⟨Rds.nil, fun v hv => by cases hv⟩, (fun r hr => by cases hr), fun b' => ⟨fun h => (g2 b' h).elim, fun h => by cases h⟩, fun b' h => by cases h⟩
      · rw [List.getElem?_set_ne ej] at h2
        exact k5.c j u c h1 h2
    · rw [nbeq e1]; exact hF.n k
  · have g : ∀ j, ((SS L ((m, .bt ty (cs.set k0 (.ow e z []))) :: M)).n j).live = true → ((SS L M).n j).live = true := fun j hj => by
      by_cases e1 : m = j
      · subst e1; show (ln M m).live = true; rw [hm]; rfl
      · have hj' : (bif Nat.beq m j then _ else ln M j : Ob).live = true := hj
        rw [nbeq e1] at hj'; exact hj'
    exact hF.i k k' b (g k h1) (g k' h2) h3 h4
theorem op_takeBt {o : Oper} {σ : AS} {t : TypeId} {x : Operand} (m3 : Nat) (ho : o.op = .load t x) {d : TypeDesc} (hu : P.underlying t = some d) (ha : aggD d = false) {m p : Nat} (hx : (σ.ev x).ptOf = some (m, p)) {ty : TypeId} {cs : List OC} (hm : σ.n m = .bt ty cs) {e2 z2 : Nat} {rows2 : List (List DV)} (hv : cs[p]? = some (.ow e2 z2 rows2)) (hne : Nat.beq m3 m = false) (hd : dOk o N = true) :
    OpS P N w0 U0 o σ ⟨o.dst.map fun d => (d, .ow m3), [(m3, .tr e2 z2 (rows2.map (·.map .dv))), (m, .bt ty (cs.take p ++ [.un] ++ cs.drop (p + 1)))], [m], [m3]⟩ := by
  intro σ' hok a w hs K Q hK
  obtain ⟨F, hF⟩ := hs.f
  obtain ⟨g', h1, h2⟩ := pt_get hok hF (x := x) (by simp [ho, Op.operands]) hx
  have hm' : σ'.n m = .bt ty cs := by rw [hok.n m (by simp)]; exact hm
  have hjl := (List.getElem?_eq_some_iff.1 hv).1
  obtain ⟨vs, T, kB, kU, k3, k8, kT, kS⟩ := bt_get hF hm' h1
  have hk : p < vs.toList.length := by rw [k8.l]; exact hjl
  obtain ⟨u, hu'⟩ : ∃ u, vs.toList[p]? = some u := ⟨_, List.getElem?_eq_getElem hk⟩
  have hc : w.cell? ⟨g', p, none⟩ = some u := by rw [cell_of_row w g' p vs ty (0, 0) k3]; simpa using hu'
  obtain ⟨ys, y1, y2, y3, y4, y5⟩ := k8.c _ u _ hu' hv
  have hfr : fresh σ' m3 := hok.f m3 (by simp)
  have hmm : m ≠ m3 := fun h => by rw [h, Nat.beq_refl] at hne; cases hne
  have hlive : (σ'.n m).live = true := by rw [hm']; rfl
  have hrun : (execOp a.eval o).run P w = .ok (.value u) w := by simp [execOp, ho, h2, Instr.loadAt, Instr.sureAddr, run_load_one hu ha hc]
  obtain ⟨F', hF'⟩ : ∃ F' : Fr, F' = ⟨fun k => if k = m3 then none else F.β k, fun k => if k = m3 then u else F.γ k, F.U, fun k b => if k = m3 then T p b else if k = m then (b = g' ∨ ∃ q, q ≠ p ∧ T q b) else F.S k b⟩ := ⟨_, rfl⟩
  have hβ3 : F'.γ m3 = u := by rw [hF']; exact if_pos rfl
  have hβm : F'.β m = some g' := by rw [hF']; exact (if_neg hmm).trans h1
  have hU : F'.U = F.U := by rw [hF']
  have hS3 : ∀ b, F'.S m3 b ↔ T p b := fun b => by rw [hF']; show (if m3 = m3 then _ else _) ↔ _; rw [if_pos rfl]
  have hSm : ∀ b, F'.S m b ↔ (b = g' ∨ ∃ q, q ≠ p ∧ T q b) := fun b => by rw [hF']; show (if m = m3 then _ else if m = m then _ else _) ↔ _; rw [if_neg hmm, if_pos rfl]
  have hSk : ∀ k, k ≠ m3 → k ≠ m → ∀ b, F'.S k b ↔ F.S k b := fun k a1 a2 b => by rw [hF']; show (if k = m3 then _ else if k = m then _ else _) ↔ _; rw [if_neg a1, if_neg a2]
  have hnw : ∀ k, nwGet [(m3, Ob.tr e2 z2 (rows2.map (·.map OC.dv))), (m, Ob.bt ty (cs.take p ++ [OC.un] ++ cs.drop (p + 1)))] k = if k = m3 then some (.tr e2 z2 (rows2.map (·.map OC.dv))) else if k = m then some (.bt ty (cs.take p ++ [OC.un] ++ cs.drop (p + 1))) else none := by
    intro k
    unfold nwGet
    by_cases a1 : k = m3
    · subst a1; rw [Nat.beq_refl, if_pos rfl]; rfl
    · rw [nbeq (Ne.symm a1), if_neg a1]
      unfold nwGet
      by_cases a2 : k = m
      · subst a2; rw [Nat.beq_refl, if_pos rfl]; rfl
      · rw [nbeq (Ne.symm a2), if_neg a2]; rfl
  have hsub : ∀ b, T p b → F.S m b := fun b hb => (kS b).2 (.inr ⟨_, hb⟩)
  have hb := hF.big (F' := F') (w' := w) (tw := o.dst.map fun d => (d, .ow m3)) (nw := [(m3, .tr e2 z2 (rows2.map (·.map .dv))), (m, .bt ty (cs.take p ++ [.un] ++ cs.drop (p + 1)))]) (by rw [hU]; exact Ext.rfl) (fun b _ => by rw [hU])
    (fun k hk => by
      rw [hnw] at hk
      have a1 : k ≠ m3 := fun h => by rw [if_pos h] at hk; cases hk
      rw [if_neg a1] at hk
      have a2 : k ≠ m := fun h => by rw [if_pos h] at hk; cases hk
      exact ⟨by rw [hF']; exact if_neg a1, by rw [hF']; exact if_neg a1, hSk k a1 a2⟩)
    (fun k hk => by
      rw [hnw] at hk
      by_cases a1 : k = m3
      · right; rw [a1]; exact hfr
      · left; exact ⟨by rw [hF']; exact if_neg a1, by rw [hF']; exact if_neg a1⟩)
    (fun k hl hk b hb hlt => ⟨rfl, by rw [hU]⟩)
    (fun k ob hk => by
      rw [hnw] at hk
      by_cases a1 : k = m3
      · rw [if_pos a1] at hk
        injection hk with hk
        subst hk a1
        refine ⟨ys, fun _ _ => False, by rw [hβ3, List.length_map]; exact y1, by rw [flat_map_dv, hU]; exact Tcs.ofRc y2, fun r' hr' => ?_, fun b hb => ⟨?_, fun _ => id⟩, fun b => ?_⟩
        · obtain ⟨r'', h3, rfl⟩ := List.mem_map.1 hr'
          simpa using y3 r'' h3
        · rw [hU]; rw [hβ3] at hb; exact y5 b hb
        · rw [hS3, hβ3, y4 b]
          exact ⟨.inl, fun h => h.elim id (fun ⟨_, h⟩ => h.elim)⟩
      · rw [if_neg a1] at hk
        by_cases a2 : k = m
        · rw [if_pos a2] at hk
          injection hk with hk
          subst hk a2
          refine ⟨g', vs, fun q b => q ≠ p ∧ T q b, hβm, kB, by rw [hU]; exact kU, k3, ?_, fun q h => kT q h.2, fun b => by rw [hSm]⟩
          rw [hU]
          have hcl := k8.l
          have hcs : ∀ q, (cs.take p ++ [OC.un] ++ cs.drop (p + 1))[q]? = if q = p then some .un else cs[q]? := by
            intro q
            rcases Nat.lt_trichotomy q p with hq | hq | hq
            · rw [if_neg (by omega), List.append_assoc, List.getElem?_append_left (by simp; omega), List.getElem?_take_of_lt hq]
            · subst hq
              rw [if_pos rfl, List.append_assoc, List.getElem?_append_right (by simp; omega)]
              simp
              rw [Nat.min_eq_left (by omega)]
              simp
            · rw [if_neg (by omega), List.getElem?_append_right (by simp; omega), List.getElem?_drop]
              congr 1
              simp
              omega
          refine ⟨by have := hcl; simp only [List.length_append, List.length_take, List.length_drop, List.length_singleton]; omega, fun q v c hv' hc' => ?_, k8.o, fun q q' b h1 h2 => k8.d q q' b h1.2 h2.2, fun q b h1 => k8.b q b h1.2⟩
          rw [hcs] at hc'
          by_cases hq : q = p
          · rw [if_pos hq] at hc'
            injection hc' with hc'
            subst hc'
            exact fun b hb => hb.1 hq
          · rw [if_neg hq] at hc'
            have := k8.c q v c hv' hc'
            have e1 : (fun b => q ≠ p ∧ T q b) = T q := by funext b; exact propext ⟨fun h => h.2, fun h => ⟨hq, h⟩⟩
            rw [e1]
            exact this
        · rw [if_neg a2] at hk; cases hk)
    (fun k ob k' b hk hl hk' hl' hb hb' => by
      have hS : F.S m b := by
        rw [hnw] at hk
        by_cases a1 : k = m3
        · subst a1; exact hsub b ((hS3 b).1 hb)
        · rw [if_neg a1] at hk
          by_cases a2 : k = m
          · subst a2
            rcases (hSm b).1 hb with h | ⟨q, _, h⟩
            · exact (kS b).2 (.inl h)
            · exact (kS b).2 (.inr ⟨q, h⟩)
          · rw [if_neg a2] at hk; cases hk
      have := hF.i m k' b hlive hl' hS hb'
      rw [hnw] at hk'
      subst this
      rw [if_neg hmm, if_pos rfl] at hk'
      cases hk')
    (fun k ob k' ob' b hk hl hk' hl' hb hb' => by
      rw [hnw] at hk hk'
      have no : ∀ b, T p b → (b = g' ∨ ∃ q, q ≠ p ∧ T q b) → False := fun b h3 h4 => by
        rcases h4 with h4 | ⟨q, h4, h5⟩
        · subst h4; exact kT _ h3
        · exact h4 (k8.d q _ b h5 h3)
      by_cases a1 : k = m3
      · by_cases a1' : k' = m3
        · rw [a1, a1']
        · rw [if_neg a1'] at hk'
          by_cases a2' : k' = m
          · subst a1 a2'; exact (no b ((hS3 b).1 hb) ((hSm b).1 hb')).elim
          · rw [if_neg a2'] at hk'; cases hk'
      · rw [if_neg a1] at hk
        by_cases a2 : k = m
        · by_cases a1' : k' = m3
          · subst a2 a1'; exact (no b ((hS3 b).1 hb') ((hSm b).1 hb)).elim
          · rw [if_neg a1'] at hk'
            by_cases a2' : k' = m
            · rw [a2, a2']
            · rw [if_neg a2'] at hk'; cases hk'
        · rw [if_neg a2] at hk; cases hk)
    (a' := a.put o.dst u) (hta_put hd hs.s (.ow m3) u).1 (fun d v h => by
      obtain ⟨rfl, h3⟩ := (hta_put hd hs.s (.ow m3) u).2 d v h
      rw [h3]
      exact hβ3.symm) [m] [m3]
  unfold Oper.wp
  rw [hrun]
  exact hK _ _ ⟨by rw [put_defers]; exact hs.d, by rw [put_size]; exact hs.s, hs.b, _, hb⟩
theorem imp_leakBt {L : List (Nat × AV)} {M : List (Nat × Ob)} (m : Nat) {ty : TypeId} {cs : List OC} {ds : List DV} (hm : ln M m = .bt ty cs) (hok : (cs.all OC.ok) = true) (he : cs.map OC.rd = ds) : Imp N w0 U0 (SS L M) (SS L ((m, .bx ty ds) :: M)) := by
  subst he
  intro a w hs
  obtain ⟨F, hF⟩ := hs.f
  have hob := hF.n m
  rw [show (SS L M).n m = _ from hm] at hob
  obtain ⟨b0, vs, T, k1, k2, k3, k4, k5, k6, k7⟩ := hob
  have hlive : ((SS L M).n m).live = true := by rw [show (SS L M).n m = _ from hm]; rfl
  obtain ⟨U', hU'⟩ : ∃ U' : Nat → Nat, U' = leakU F.U cs T := ⟨_, rfl⟩
  have hUT : ∀ k b c, T k b → cs[k]? = some c → U' b = c.len := fun k b c hk hc => by rw [hU']; exact leakU_T k5.d hk hc
  have hUn : ∀ b, ¬ (∃ k, T k b) → U' b = F.U b := fun b hb => by rw [hU']; exact leakU_no hb
  have hU0 : ∀ b, (∃ k, T k b) → F.U b = 0 := fun b ⟨k, h⟩ => by
    have hk := k5.b k b h
    have hl := k5.l
    have := k5.c k _ _ (List.getElem?_eq_getElem hk) (List.getElem?_eq_getElem (by omega))
    generalize cs[k]'(by omega) = c at this
    cases c with
    | un => exact absurd h (this b)
    | dv x => exact absurd h (this.2 b)
    | ow e2 z2 rows2 => obtain ⟨_, _, _, _, q4, q5⟩ := this; exact q5 b ((q4 b).1 h)
  have hE : Ext w F.U w U' := ⟨fun b o u hc ho' => ⟨hc, by
    by_cases hb : ∃ k, T k b
    · rw [hU0 b hb] at ho'; omega
    · rw [hUn b hb]; exact ho'⟩, fun r es c hr hu => ⟨rfl, hUn r (fun hb => by rw [hU0 r hb] at hu; omega)⟩⟩
  have hrc := k5.leak (fun c hc => List.all_eq_true.1 hok c hc) hE hUT
  have hb := hF.big (F' := ⟨F.β, F.γ, U', fun k x => if k = m then x = b0 else F.S k x⟩) (w' := w) (tw := none) (nw := [(m, .bx ty (cs.map OC.rd))]) hE
    (fun x hx => hUn x (fun h => by have := ((hF.n m).lt hlive ((k7 x).2 (.inr h))).1; omega))
    (fun k hk => ⟨rfl, rfl, fun x => by
      have hne : k ≠ m := fun e => by subst e; simp [nwGet] at hk
      show (if k = m then _ else _) ↔ _
      rw [if_neg hne]⟩)
    (fun k hk => .inl ⟨rfl, rfl⟩)
    (fun k hl hk x hx hxl => ⟨rfl, hUn x (fun h => by
      have := hF.i k m x hl hlive hx ((k7 x).2 (.inr h))
      subst this
      simp [nwGet] at hk)⟩)
    (fun k o hk => by
      rw [nw_one] at hk
      by_cases e : k = m
      · rw [if_pos e] at hk; injection hk with hk; subst hk e
        exact ⟨b0, vs, k1, k2, (hUn b0 (fun ⟨q, h⟩ => k6 q h)).trans k3, k4, hrc, fun b' => by show (if k = k then _ else _) ↔ _; rw [if_pos rfl]⟩
      · rw [if_neg e] at hk; cases hk)
    (fun k o k' x hk hl hk' hl' hx hx' => by
      rw [nw_one] at hk hk'
      by_cases e : k = m
      · have hx2 : (if k = m then x = b0 else F.S k x) := hx
        rw [if_pos e] at hx2
        subst hx2
        have := hF.i m k' x hlive hl' ((k7 x).2 (.inl rfl)) hx'
        rw [if_pos this.symm] at hk'; cases hk'
      · rw [if_neg e] at hk; cases hk)
    (fun k o k' o' x hk hl hk' hl' _ _ => by
      rw [nw_one] at hk hk'
      by_cases e : k = m
      · by_cases e' : k' = m
        · rw [e, e']
        · rw [if_neg e'] at hk'; cases hk'
      · rw [if_neg e] at hk; cases hk)
    (a' := a) (fun t' => rfl) (fun d v h => by cases h) [] []
  rw [ap_ss] at hb
  exact ⟨hs.d, hs.s, hs.b, _, hb⟩
end
end Go.Proofs.Ytijjnbabdlllkaa.Av

namespace Go.Proofs.Ytijjnbabdlllkaa.Av
open Go Go.RowKit ChangeMaps
section
variable {P : Program} {N : Nat} {w0 : World} {U0 : Nat → Nat}
end
end Go.Proofs.Ytijjnbabdlllkaa.Av

namespace Go.Proofs.Ytijjnbabdlllkaa.Av
open Go Go.RowKit Go.ChangeMaps
def mput (td : TypeDesc) (k : Value) (d : DV) : List (Value × DV) → List (Value × DV)
  | [] => [(k, d)]
  | x :: xs => match Instr.sameNow td k x.1 with
    | some true => (k, d) :: xs
    | _ => x :: mput td k d xs
section
variable {P : Program} {N : Nat} {w0 : World} {U0 : Nat → Nat}
end
end Go.Proofs.Ytijjnbabdlllkaa.Av
