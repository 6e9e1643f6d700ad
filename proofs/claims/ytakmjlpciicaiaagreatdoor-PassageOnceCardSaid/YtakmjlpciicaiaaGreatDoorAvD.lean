/- Rules for states of data. Conditions: as each theorem names them. -/
import Derived.Test.YtakmjlpciicaiaaGreatDoorAvC
import Derived.Laws.Shifts
import Derived.Laws.Unary
import Derived.Laws.Entries
import Derived.Lib.ConvBytes
import Derived.Lib.AppendStr
import Derived.Laws.IdiomCopy
import Derived.Laws.MakeOwn
import Derived.Laws.Slices
import Derived.LoopN
set_option linter.unusedSimpArgs false
set_option linter.unusedVariables false
namespace Go.Proofs.YtakmjlpciicaiaaGreatDoor.Av
open Go Go.RowKit
section
variable {P : Program} (t : TypeId) (k yk : IntKind) (a b : Int) (x y : Operand) (w : World)
theorem b_shr (h : 0 ≤ b) : (do eqGuard .shr t x y (.int k a) (.int yk b); binOp .shr t (.int k a) (.int yk b) : Sem Value).run P w = .ok (.int k (a / 2 ^ min b.toNat k.bits)) w := by simp [eqGuard, binOp_shr, shift_shr_any k yk a b h]
end
end Go.Proofs.YtakmjlpciicaiaaGreatDoor.Av

namespace Go.Proofs.YtakmjlpciicaiaaGreatDoor.Av
open Go Go.RowKit
section
variable {P : Program} {N : Nat} {w0 : World} {U0 : Nat → Nat}
theorem op_convK {o : Oper} {σ : AS} {src dst : TypeId} {x : Operand} (ho : o.op = .convert src dst x) {k0 k k' : IntKind} {n : Int} (hs : P.underlying src = some (.int k0)) (ht : P.underlying dst = some (.int k)) (hx : σ.ev x = .d (.fl (.int k' n))) (hd : dOk o N = true) : OpS P N w0 U0 o σ ⟨o.dst.map fun d => (d, .d (.fl (.int k (k.wrap n)))), [], [], []⟩ :=
  opS_still hd fun σ' hok a w F hF => by
    have h1 := flat_val (ev_get hok hF (x := x) (by simp [ho, Op.operands]) hx)
    exact ⟨.int k (k.wrap n), by simp [execOp, ho, h1, convert, run_underlying hs, run_underlying ht, Conv.intToInt], .fl _⟩
end
end Go.Proofs.YtakmjlpciicaiaaGreatDoor.Av

namespace Go.Proofs.YtakmjlpciicaiaaGreatDoor.Av
open Go Go.RowKit
def CtrT (P : Program) (f : FuncId) (e : TypeId) (z : Nat) (rows : List (List OC)) (args : List DV) (rows' : List (List OC)) : Prop :=
  ∀ (v : Value) (vals : List Value) (U : Nat → Nat) (S0 : Nat → Prop) (w : World), Rob 0 w (thF none v U S0) 0 (.tr e z rows) → Rds w U vals args →
    Calls P f (v :: vals).toArray w fun ex w' => ∃ rv U' S', ex = .returned rv ∧ Below 0 (bare w) w' ∧ (∀ g, g < w.heap.size → ¬ S0 g → w'.heap[g]? = w.heap[g]? ∧ U' g = U g) ∧ (∀ g, S' g → S0 g ∨ w.heap.size ≤ g) ∧ Rob 0 w' (thF none rv U' S') 0 (.tr e z rows')
section
variable {P : Program} {N : Nat} {w0 : World} {U0 : Nat → Nat}
def retT (t : Nat) (e : TypeId) (z : Nat) (rows' : List (List OC)) (H : World) (V : Nat → Nat) (Q : Nat → Prop) : Exit → AS → Prop
  | .normal, σ | .ret, σ => ∃ m, m ≠ 1 ∧ σ.t t = .ow m ∧ σ.n m = .tr e z rows' ∧ σ.n 1 = .pin H V Q
  | _, _ => False
theorem ctrT {f : FuncId} {fn : Func} {c : Code} {e : TypeId} {z : Nat} {rows rows' : List (List OC)} {args : List DV} {n t : Nat} {L : List (Nat × AV)} (hf : P.funcs[f]? = some fn) (hb : fn.body = some c) (hn : fn.ntmps = n) (hr : fn.results = #[.tmp t]) (hl : Nat.ble (args.length + 1) n = true) (hL : args0 args 1 = L)
    (h : ∀ w0 U0 H V Q, A P n w0 U0 c (retT t e z rows' H V Q) (SS ((0, .ow 0) :: L) [(0, .tr e z rows), (1, .pin H V Q)])) : CtrT P f e z rows args rows' := by
  subst hn
  subst hL
  intro v vals U S0 w hob hR
  have hle := Nat.le_of_ble_eq_true hl
  have hsz : ((v :: vals).toArray ++ Array.replicate (fn.ntmps - (v :: vals).toArray.size) undef).size = fn.ntmps := by have := hR.1; simp; omega
  let F : Fr := ⟨fun _ => none, fun _ => v, U, fun j g => if j = 0 then S0 g else (g < w.heap.size ∧ ¬ S0 g)⟩
  have hget : ∀ t, ((v :: vals).toArray ++ Array.replicate (fn.ntmps - (v :: vals).toArray.size) undef).getD t undef = if t = 0 then v else if h : t - 1 < vals.length then vals[t - 1] else undef := by
    intro t
    cases t with
    | zero =>
      rw [Array.getD_eq_getD_getElem?, Array.getElem?_append_left (by simp)]
      simp
    | succ t =>
      rw [Array.getD_eq_getD_getElem?]
      rcases Nat.lt_or_ge t vals.length with ht | ht
      · rw [Array.getElem?_append_left (by simp; omega)]
        simp [ht]
      · rw [Array.getElem?_append_right (by simp; omega), Array.getElem?_replicate]
        simp only [Nat.add_one_ne_zero, if_false]
        rw [dif_neg (by omega)]
        split <;> rfl
  have hfit : Fits (bare w) U (SS ((0, AV.ow 0) :: args0 args 1) [(0, .tr e z rows), (1, .pin w U (fun g => g < w.heap.size ∧ ¬ S0 g))]) ⟨(v :: vals).toArray ++ Array.replicate (fn.ntmps - (v :: vals).toArray.size) undef, []⟩ w F := by
    refine ⟨fun b hb => rfl, fun t => ?_, fun m => ?_, fun m m' b h1 h2 h3 h4 => ?_⟩
    · show Rav w F (bif Nat.beq 0 t then AV.ow 0 else lk (args0 args 1) t) _
      rw [hget]
      cases t with
      | zero => rw [Nat.beq_refl, if_pos rfl]; rfl
      | succ t =>
        rw [nbeq (by omega), cond_false, args0_get, if_neg (by omega)]
        split
        · rename_i ht
          have hl := hR.1
          have ht' : t < args.length := by have := ht.2; omega
          simp only [Nat.add_sub_cancel]
          rw [dif_pos (by omega)]
          exact hR.2 t _ _ (List.getElem?_eq_getElem (by omega)) (List.getElem?_eq_getElem ht')
        · trivial
    · show Rob 0 w F m (bif Nat.beq 0 m then Ob.tr e z rows else bif Nat.beq 1 m then .pin w U _ else .no)
      by_cases h0 : m = 0
      · subst h0
        rw [Nat.beq_refl]
        exact hob.move (k := .r) rfl (fun _ => rfl) (fun _ => rfl) (fun b => by simp [F, thF]) rfl
      · rw [nbeq (Ne.symm h0), cond_false]
        by_cases h1 : m = 1
        · subst h1
          rw [Nat.beq_refl]
          exact ⟨fun b => by simp [F], fun b hq => ⟨Nat.zero_le _, hq.1, rfl, rfl⟩⟩
        · rw [nbeq (Ne.symm h1), cond_false]; trivial
    · have key : ∀ m, ((SS ((0, AV.ow 0) :: args0 args 1) [(0, .tr e z rows), (1, .pin w U (fun g => g < w.heap.size ∧ ¬ S0 g))]).n m).live = true → m = 0 ∨ m = 1 := by
        intro m hm
        by_cases h0 : m = 0
        · exact .inl h0
        · by_cases h1 : m = 1
          · exact .inr h1
          · have : (SS ((0, AV.ow 0) :: args0 args 1) [(0, .tr e z rows), (1, .pin w U (fun g => g < w.heap.size ∧ ¬ S0 g))]).n m = .no := by
              show (bif Nat.beq 0 m then Ob.tr e z rows else bif Nat.beq 1 m then _ else .no) = _
              rw [nbeq (Ne.symm h0), cond_false, nbeq (Ne.symm h1), cond_false]
            rw [this] at hm; cases hm
      rcases key m h1 with rfl | rfl <;> rcases key m' h2 with rfl | rfl
      · rfl
      · have g1 : S0 b := h3
        have g2 : b < w.heap.size ∧ ¬ S0 b := h4
        exact absurd g1 g2.2
      · have g1 : S0 b := h4
        have g2 : b < w.heap.size ∧ ¬ S0 b := h3
        exact absurd g1 g2.2
      · rfl
  refine calls_of_wp hf hb ((h (bare w) U w U (fun g => g < w.heap.size ∧ ¬ S0 g)).go _ w ⟨rfl, hsz, ⟨rfl, rfl, rfl, Nat.zero_le _, fun k hk => by have : k < 0 := hk; omega⟩, F, hfit⟩ _ (fun ex σ' a' w' hrr hs' => ?_))
  have key : (∃ m, m ≠ 1 ∧ σ'.t t = .ow m ∧ σ'.n m = .tr e z rows' ∧ σ'.n 1 = .pin w U (fun g => g < w.heap.size ∧ ¬ S0 g)) → a'.defers = [] ∧ ∃ x, (results fn a'.tmps).run P w' = .ok x w' ∧ ∃ rv U' S', Ending.returned x = .returned rv ∧ Below 0 (bare w) w' ∧ (∀ g, g < w.heap.size → ¬ S0 g → w'.heap[g]? = w.heap[g]? ∧ U' g = U g) ∧ (∀ g, S' g → S0 g ∨ w.heap.size ≤ g) ∧ Rob 0 w' (thF none rv U' S') 0 (.tr e z rows') := by
    rintro ⟨m, hm1, ht0, hn0, hn1⟩
    obtain ⟨F', hF⟩ := hs'.f
    have hp := hF.n 1
    rw [hn1] at hp
    obtain ⟨hp1, hp2⟩ := hp
    have ho : Rob 0 w' F' m (.tr e z rows') := by have := hF.n m; rwa [hn0] at this
    have hl0 : (σ'.n m).live = true := by rw [hn0]; rfl
    have hl1 : (σ'.n 1).live = true := by rw [hn1]; rfl
    have hav : a'.tmps.getD t undef = F'.γ m := by have := hF.t t; rw [ht0] at this; exact this
    refine ⟨hs'.d, a'.tmps.getD t undef, ?_, _, F'.U, F'.S m, rfl, hs'.b, fun g hg hS => ?_, fun g hg => ?_, ?_⟩
    · have hres : results fn a'.tmps = (fn.results.mapM (resVal a') >>= fun vs => pure (if h : vs.size = 1 then vs[0] else .tuple vs)) := rfl
      rw [hres, hr]
      simp [resVal, Act.eval]
    · obtain ⟨_, _, g3, g4⟩ := hp2 g ⟨hg, hS⟩
      exact ⟨g3, g4⟩
    · by_cases hS : S0 g
      · exact .inl hS
      · by_cases hlt : g < w.heap.size
        · exact absurd (hF.i m 1 g hl0 hl1 hg ((hp1 g).2 ⟨hlt, hS⟩)) hm1
        · exact .inr (by omega)
    · exact ho.move (k := .r) rfl (fun hk => by cases hk) (fun _ => by show a'.tmps.getD t undef = F'.γ m; exact hav) (fun b => Iff.rfl) rfl
  cases ex with
  | normal => exact key hrr
  | ret => exact key hrr
  | _ => exact hrr.elim
theorem op_callT {o : Oper} {σ : AS} {f : FuncId} {args : Array Operand} {ats : Array TypeId} (m : Nat) {m0 : Nat} (ho : o.op = .call { callee := .value (.func f), args := args, argTypes := ats }) {fn : Func} (hf : P.funcs[f]? = some fn) (hn : (fn.name == "runtime.NumGoroutine") = false) (hb : fn.body.isNone = false)
    {x : Operand} {xs : List Operand} (hxs : args.toList = x :: xs) (hx : σ.ev x = .ow m0) {e : TypeId} {z : Nat} {rows rows' : List (List OC)} (hm : σ.n m0 = .tr e z rows) {ds : List DV} {rns : List Nat} (ha : ArgsS σ xs ds rns) (hc : CtrT P f e z rows ds rows') (hd : dOk o N = true) :
    OpS P N w0 U0 o σ ⟨o.dst.map fun d => (d, .ow m), (m, .tr e z rows') :: [m0].map (fun q => (q, Ob.no)), m0 :: rns, [m]⟩ := by
  intro σ' hok a w hs K Q hK
  obtain ⟨F, hF⟩ := hs.f
  have hmem : ∀ y ∈ args.toList, σ'.ev y = σ.ev y := fun y hy => ev_ok hok (by simp [ho, Op.operands, Call.operands]; exact .inr (by simpa using hy))
  have hR := ha.get hF (fun j hj => hok.n j (by simp [hj])) (fun y hy => hmem y (by rw [hxs]; simp [hy]))
  have hm' : σ'.n m0 = .tr e z rows := (hok.n m0 (by simp)).trans hm
  have hv : a.eval x = F.γ m0 := by have := hF.ev x; rw [hmem x (by rw [hxs]; simp), hx] at this; exact this
  have hob : Rob w0.heap.size w F m0 (.tr e z rows) := by have := hF.n m0; rwa [hm'] at this
  have hlm : (σ'.n m0).live = true := by rw [hm']; rfl
  have hSB : ∀ b, F.S m0 b → w0.heap.size ≤ b ∧ b < w.heap.size := fun b hb => hob.lt rfl hb
  have hob0 : Rob 0 w (thF none (a.eval x) F.U (F.S m0)) 0 (.tr e z rows) := (hob.debase (k := .r) rfl).move (k := .r) rfl (fun hk => by cases hk) (fun _ => hv) (fun _ => Iff.rfl) rfl
  have hcall := hc (a.eval x) _ F.U (F.S m0) w hob0 hR
  unfold Oper.wp
  have hex : (execOp a.eval o).run P w = .ok (.enter f (a.eval x :: xs.map a.eval).toArray) w := by
    unfold execOp
    simp only [ho, resolve, Act.eval, Deferred.ofValue, invoke, Sem.run_bind, Sem.run_pure, Result.andThen_ok]
    have e1 : (#[] ++ Array.map a.eval args ++ #[] : Array Value) = (a.eval x :: xs.map a.eval).toArray := by
      apply Array.ext'
      simp [hxs]
    rw [e1]
    exact run_call hf hn hb _ w
  rw [hex, Oper.upon_enter]
  refine Calls.mono hcall ?_
  rintro ex w' ⟨rv, U', S', rfl, h1, h2, h3, h4⟩
  have hB := hs.b.size
  have hE : Ext w F.U w' U' := by
    refine ⟨fun b o u hc ho => ?_, fun q es c hq hu => ?_⟩
    · have hlt := World.block_lt_of_cell? w _ hc
      have hnS : ¬ F.S m0 b := fun hb => by have := hob.zero (k := .r) rfl hb; omega
      obtain ⟨g1, g2⟩ := h2 b hlt hnS
      exact ⟨(World.cell?_of_block g1).trans hc, by rw [g2]; exact ho⟩
    · have hlt : q < w.heap.size := (Array.getElem?_eq_some_iff.1 hq).1
      have hnS : ¬ F.S m0 q := fun hb => by have := hob.zero (k := .r) rfl hb; omega
      exact h2 q hlt hnS
  have hold : ∀ b, b < w0.heap.size → w'.heap[b]? = w.heap[b]? ∧ U' b = F.U b := fun b hb => h2 b (by omega) (fun hS => by have := (hSB b hS).1; omega)
  have hsz : w0.heap.size ≤ w'.heap.size := by
    rcases Nat.eq_zero_or_pos w0.heap.size with hz | hz
    · omega
    · have h6 := (hold (w0.heap.size - 1) (by omega)).1
      rw [Array.getElem?_eq_getElem (show w0.heap.size - 1 < w.heap.size by omega)] at h6
      have := (Array.getElem?_eq_some_iff.1 h6).1
      omega
  have hfit := hF.make (m := m) (ob := .tr e z rows') (ks := [m0]) (γv := rv) (βv := none) (Sm := S') (U' := U') (w' := w') (a' := a.put o.dst rv) (tw := o.dst.map fun d => (d, .ow m)) (hok.f m (by simp)) hE (fun b hb => (hold b hb).2)
    (fun k b hl hk hb hlt => h2 b hlt (fun hS => hk (by rw [hF.i k m0 b hl hlm hb hS]; simp)))
    (fun b hb => by
      rcases h3 b hb with h6 | h6
      · exact .inr ⟨m0, by simp, hlm, h6⟩
      · exact .inl h6)
    (by
      refine Rob.rebase (k := .r) rfl (h4.move (k := .r) rfl (fun hk => by cases hk) (fun _ => by simp [thF]) (fun b => by simp [thF]) rfl) (fun b hb => ?_)
      have hb' : S' b := by simpa using hb
      rcases h3 b hb' with h6 | h6
      · exact (hSB b h6).1
      · omega)
    (hta_put hd hs.s (.ow m) rv).1 (fun d v' h => by
      obtain ⟨rfl, h3⟩ := (hta_put hd hs.s (.ow m) rv).2 d v' h
      rw [h3]; exact (if_pos rfl).symm) (m0 :: rns) [m]
  exact hK _ _ ⟨by rw [put_defers]; exact hs.d, by rw [put_size]; exact hs.s, ⟨h1.os.trans hs.b.os, h1.tape.trans hs.b.tape, h1.output.trans hs.b.output, hsz, fun b hb => (hold b hb).1.trans (hs.b.block b hb)⟩, _, hfit⟩
end
end Go.Proofs.YtakmjlpciicaiaaGreatDoor.Av

namespace Go.Proofs.YtakmjlpciicaiaaGreatDoor.Av
open Go Go.RowKit
def bys (s : ByteArray) : List Int := s.data.toList.map fun b => (b.toNat : Int)
section
variable {P : Program} {N : Nat} {w0 : World} {U0 : Nat → Nat}
theorem op_rowNew {o : Oper} {σ : AS} {e : TypeId} (m : Nat) {rows : List (List DV)} {z : Nat} {rn : List Nat} (hd : dOk o N = true) (hz : ∀ r ∈ rows, r.length = z)
    (h : ∀ σ', (⟨o.dst.map fun d => (d, .ow m), (m, .tr e z (rows.map (·.map .dv))) :: ([] : List Nat).map (fun q => (q, Ob.no)), rn, [m]⟩ : Eff).ok o σ σ' → ∀ a w F, Fits w0 U0 σ' a w F → w0.heap.size ≤ w.heap.size →
      ∃ c cur, (execOp a.eval o).run P w = .ok (.value (.slice (some ⟨w.heap.size, 0, none⟩) rows.length c)) (w.alloc (.cells cur e)) ∧ rows.length ≤ c ∧ c ≤ maxLen ∧ cur.size = c * z ∧ Rc w F.U (cur.toList.take (rows.length * z)) rows.flatten) :
    OpS P N w0 U0 o σ ⟨o.dst.map fun d => (d, .ow m), (m, .tr e z (rows.map (·.map .dv))) :: ([] : List Nat).map (fun q => (q, Ob.no)), rn, [m]⟩ := by
  intro σ' hok a w hst K Q hK
  obtain ⟨F, hF⟩ := hst.f
  obtain ⟨c, cur, hex, h1, h2, h3, h4⟩ := h σ' hok a w F hF hst.b.size
  unfold Oper.wp
  rw [hex]
  have hU2 : ∀ b, b < w.heap.size → (fun b => if b = w.heap.size then 0 else F.U b) b = F.U b := fun b hb => by simp; intro h; omega
  have hE : Ext w F.U (w.alloc (.cells cur e)) (fun b => if b = w.heap.size then 0 else F.U b) := Up.ext ⟨fun b hlt => Below.heap_alloc w _ b hlt, hU2⟩
  have hlen : (rows.map (·.map OC.dv)).length = rows.length := by simp
  have hxl : (cur.toList.take (rows.length * z)).length = rows.length * z := by
    have := Nat.mul_le_mul_right z h1
    simp; omega
  have hfit := hF.make (m := m) (ob := .tr e z (rows.map (·.map .dv))) (ks := []) (γv := .slice (some ⟨w.heap.size, 0, none⟩) rows.length c) (βv := none) (Sm := fun b => b = w.heap.size) (U' := fun b => if b = w.heap.size then 0 else F.U b) (w' := w.alloc (.cells cur e)) (a' := a.put o.dst (.slice (some ⟨w.heap.size, 0, none⟩) rows.length c)) (tw := o.dst.map fun d => (d, .ow m)) (hok.f m (by simp)) hE (fun b hb => hU2 b (by have := hst.b.size; omega)) (fun k b _ _ _ hlt => ⟨Below.heap_alloc w _ b hlt, hU2 b hlt⟩) (fun b h => .inl (by omega))
    ⟨cur.toList.take (rows.length * z), fun _ _ => False, by
      simp only [↓reduceIte, hlen]
      exact ⟨hxl, .inr ⟨w.heap.size, c, cur, rfl, hst.b.size, Go.heap_alloc_new w _, h1, h2, h3, rfl⟩⟩, by rw [flat_map_dv]; exact Tcs.ofRc (h4.ext hE), (fun r hr => by
      obtain ⟨r', h5, rfl⟩ := List.mem_map.1 hr
      simpa using hz r' h5), fun b hb => by
      simp only [↓reduceIte] at hb
      injection hb with hb
      subst hb
      exact ⟨by simp, fun _ h => h⟩, fun b => by
      simp only [↓reduceIte]
      constructor
      · intro h; exact .inl (by rw [h]; rfl)
      · rintro (h | ⟨_, h⟩)
        · injection h with h; exact h.symm
        · exact h.elim⟩
    (hta_put hd hst.s (.ow m) _).1 (fun d v h => by
      obtain ⟨rfl, h3⟩ := (hta_put hd hst.s (.ow m) (.slice (some ⟨w.heap.size, 0, none⟩) rows.length c)).2 d v h
      rw [h3]; exact (if_pos rfl).symm) rn [m]
  exact hK _ _ ⟨by rw [put_defers]; exact hst.d, by rw [put_size]; exact hst.s, hst.b.alloc hst.b.size _, _, hfit⟩
theorem size_madeCells' (z : Array Value) (n : Nat) : (madeCells z n).size = n := by simp [madeCells]
end
end Go.Proofs.YtakmjlpciicaiaaGreatDoor.Av

namespace Go.Proofs.YtakmjlpciicaiaaGreatDoor.Av
open Go Go.RowKit
section
variable {P : Program} {N : Nat} {w0 : World} {U0 : Nat → Nat}
theorem setCells_sz (b : Nat) : ∀ (vs : List Value) (o : Nat) (w : World), (w.setCells b o vs).heap.size = w.heap.size
  | [], _, _ => rfl
  | v :: vs, o, w => by
    show ((w.setCell ⟨b, o, none⟩ v).setCells b (o + 1) vs).heap.size = _
    rw [setCells_sz b vs]; simp [World.setCell]
end
end Go.Proofs.YtakmjlpciicaiaaGreatDoor.Av

namespace Go.Proofs.YtakmjlpciicaiaaGreatDoor.Av
open Go Go.RowKit
theorem tD_ok {α : Type} {f : α → List DV} {l : List α} : ∀ r ∈ tD f l, ∀ c ∈ r, c.ok = true := by
  intro r hr c hc
  obtain ⟨y, hy, rfl⟩ := List.mem_map.1 hr
  obtain ⟨x, hx, rfl⟩ := List.mem_map.1 hc
  rfl
theorem tD_rd {α : Type} {f : α → List DV} {l : List α} : (tD f l).map (·.map OC.rd) = l.map f := by
  unfold tD
  rw [List.map_map, List.map_map]
  apply List.map_congr_left
  intro x _
  show ((f x).map OC.dv).map OC.rd = f x
  rw [List.map_map]
  exact List.map_id _
section
variable {P : Program} {N : Nat} {w0 : World} {U0 : Nat → Nat}
theorem imp_leakT {L : List (Nat × AV)} {M : List (Nat × Ob)} (t m : Nat) {e : TypeId} {z : Nat} {α : Type} {f : α → List DV} {l : List α} (ht : lk L t = .ow m) (hm : ln M m = .tr e z (tD f l)) : Imp N w0 U0 (SS L M) (SS ((t, .d (.sl z (l.map f))) :: L) ((m, .no) :: M)) :=
  imp_leakE t m ht hm tD_ok tD_rd
end
end Go.Proofs.YtakmjlpciicaiaaGreatDoor.Av

namespace Go.Proofs.YtakmjlpciicaiaaGreatDoor.Av
open Go Go.RowKit
def cI (k : IntKind) (x : Int) : DV := .fl (.int k x)
section
variable {P : Program} {N : Nat} {w0 : World} {U0 : Nat → Nat}
end
end Go.Proofs.YtakmjlpciicaiaaGreatDoor.Av

namespace Go.Proofs.YtakmjlpciicaiaaGreatDoor.Av
open Go Go.RowKit
def RresW (w : World) (U : Nat → Nat) (B : Nat) (v : Value) (e : TypeId) (z : Nat) (rows : List (List DV)) : Prop :=
  ∃ xs, w.ownsRow B e z v rows.length xs ∧ Rc w U xs rows.flatten ∧ (∀ r ∈ rows, r.length = z) ∧ ∀ b, v.ownBlock = some b → U b = rows.length * z
def CtrW (P : Program) (f : FuncId) (args : List DV) (e : TypeId) (z : Nat) (rows : List (List DV)) : Prop :=
  ∀ (vals : List Value) (U : Nat → Nat) (w : World), Rds w U vals args → Calls P f vals.toArray w fun ex w' => ∃ v U', ex = .returned v ∧ Below w.heap.size w w' ∧ (∀ b, b < w.heap.size → U' b = U b) ∧ RresW w' U' w.heap.size v e z rows
section
variable {P : Program} {N : Nat} {w0 : World} {U0 : Nat → Nat}
end
end Go.Proofs.YtakmjlpciicaiaaGreatDoor.Av

namespace Go.Proofs.YtakmjlpciicaiaaGreatDoor.Av
open Go Go.RowKit
section
variable {P : Program} {N : Nat} {w0 : World} {U0 : Nat → Nat}
end
end Go.Proofs.YtakmjlpciicaiaaGreatDoor.Av

namespace Go.Proofs.YtakmjlpciicaiaaGreatDoor.Av
open Go Go.RowKit
theorem rd_len {w : World} {U : Nat → Nat} {v : Value} {z : Nat} {rows : List (List DV)} (h : Rd w U v (.sl z rows)) : rows.length ≤ 9223372036854775807 := by
  cases h with
  | sn A c => simp
  | sl b off n c _ _ u hn hzz hm hcell hrr => omega
theorem opens_len {P : Program} {t : TypeId} {z : Nat} {α : Type} {f : α → List DV} {ok : List α → Prop} (h : Opens P t (rL z f) ok) : Opens P t (rL z f) (fun l => l.length ≤ 9223372036854775807 ∧ ok l) := by
  intro H enc w base spare held fuel cs x hx
  obtain ⟨a, h1, h2⟩ := h H enc w base spare held fuel cs x hx
  refine ⟨a, h1, ?_, h2⟩
  have hl := h1.1.1
  have hc : ∃ u, cs = [u] := by
    match cs, hl with
    | [u], _ => exact ⟨u, rfl⟩
  obtain ⟨u, rfl⟩ := hc
  have := rd_len (h1.1.2 0 u _ rfl rfl)
  simpa using this
end Go.Proofs.YtakmjlpciicaiaaGreatDoor.Av

namespace Go.Proofs.YtakmjlpciicaiaaGreatDoor.Av
open Go Go.RowKit
section
variable {P : Program} {N : Nat} {w0 : World} {U0 : Nat → Nat}
structure ARd (P : Program) (N : Nat) (w0 : World) (U0 : Nat → Nat) (c : Code) (R : Exit → AS → Prop) (n : Nat) (σ : AS) : Prop where
  go : ∀ a w, St N w0 U0 σ a w → ∀ Q, (∀ e σ' a' w', R e σ' → St N w0 U0 σ' a' w' → Q e a' w') → Code.rounds P c Q n a w
theorem ard_succ {n : Nat} {c : Code} {R : Exit → AS → Prop} {σ : AS} (h : A P N w0 U0 c (thenR (ARd P N w0 U0 c R n) R) σ) : ARd P N w0 U0 c R (n + 1) σ := by
  refine ⟨fun a w hs Q hQ => ?_⟩
  rw [rounds_succ]
  refine h.go a w hs _ (fun e σ' a' w' hr hs' => ?_)
  cases e with
  | normal => exact ARd.go hr a' w' hs' Q hQ
  | _ => exact hQ _ _ _ _ hr hs'
def sLt (s u : ByteArray) : Bool := Op.bytesLess s.toList u.toList
theorem b_slt (t : TypeId) (s u : ByteArray) (x y : Operand) (w : World) : (do eqGuard .lss t x y (.string s) (.string u); binOp .lss t (.string s) (.string u) : Sem Value).run P w = .ok (.bool (sLt s u)) w := by simp [eqGuard, binOp, Op.stringOp, sLt]
theorem b_sgt (t : TypeId) (s u : ByteArray) (x y : Operand) (w : World) : (do eqGuard .gtr t x y (.string s) (.string u); binOp .gtr t (.string s) (.string u) : Sem Value).run P w = .ok (.bool (!(sLt s u || sEq s u))) w := by simp [eqGuard, binOp, Op.stringOp, sLt, ← toList_sEq]
end
end Go.Proofs.YtakmjlpciicaiaaGreatDoor.Av

namespace Go.Proofs.YtakmjlpciicaiaaGreatDoor.Av
open Go Go.RowKit
section
variable {P : Program} {N : Nat} {w0 : World} {U0 : Nat → Nat}
end
end Go.Proofs.YtakmjlpciicaiaaGreatDoor.Av

namespace Go.Proofs.YtakmjlpciicaiaaGreatDoor.Av
open Go Go.RowKit ChangeMaps
section
variable {P : Program} {N : Nat} {w0 : World} {U0 : Nat → Nat}
theorem op_mapSameS {o : Oper} {σ : AS} {t : TypeId} {x y z : Operand} (ho : o.op = .mapUpdate t x y z) (hdn : o.dst = none) {kt et : TypeId} (ht : P.underlying t = some (.map kt et)) {td : TypeDesc} (hk : P.underlying kt = some td) (htd : keyTd td = true)
    {m : Nat} {xs : List (Value × DV)} (hx : σ.ev x = .ow m) (hm : σ.n m = .mp xs) {p : ByteArray} (hy : σ.ev y = .d (.fl (.string p))) {v : Value} (hr : mfind td (.string p) xs = some (some (.fl v))) (hz : σ.ev z = .d (.fl v)) :
    OpS P N w0 U0 o σ ⟨none, [(m, .mp xs)], [m], []⟩ := by
  intro σ' hok a w hs K Q hK
  obtain ⟨F, hF⟩ := hs.f
  have hv : a.eval x = F.γ m := ev_get hok hF (x := x) (by simp [ho, Op.operands]) hx
  have hkv : a.eval y = .string p := flat_val (ev_get hok hF (x := y) (by simp [ho, Op.operands]) hy)
  have hvz : a.eval z = v := flat_val (ev_get hok hF (x := z) (by simp [ho, Op.operands]) hz)
  have hm' : σ'.n m = .mp xs := by rw [hok.n m (by simp)]; exact hm
  have hn := hF.n m
  rw [hm'] at hn
  obtain ⟨b, es, c, h1, h2, h3, h4, h5, h6, hst⟩ := hn
  have hlt : b < w.heap.size := (Array.getElem?_eq_some_iff.1 h4).1
  obtain ⟨_, g2⟩ := find_ents es.toList xs 0 h5 _ hr
  obtain ⟨j, u, g3, g4⟩ := g2 _ rfl
  have hu : u = v := by cases g4; rfl
  subst hu
  obtain ⟨e, _, g5, g6, g7⟩ := find_at es.toList 0 g3
  have g5 : es[j]? = some e := by simpa using g5
  have g8 : (Value.string p) = e.key := sameNow_eq g7
  have hmod : (es.modify j fun e => { e with key := .string p, val := u }) = es := by
    apply Array.ext
    · simp
    · intro i h1 h2
      rw [Array.getElem_modify]
      split
      · rename_i hji
        subst hji
        have g9 : es[j] = e := by have := Array.getElem?_eq_getElem (show j < es.size by simpa using h1); rw [this] at g5; injection g5
        rw [g9]
        cases e
        simp at g6 g8
        subst g6 g8
        rfl
      · rfl
  have hrun : (execOp a.eval o).run P w = .ok .skip (setBlock w b (.map es c)) := by
    simp [execOp, ho, hv, h1, hkv, hvz, Instr.mapUpdate, run_underlying ht, MapKept.run_getObj_map h4, run_checkKey' hk htd, run_findKey' hk g3, g5, ← g8, Instr.keyThatStays, Instr.sameBits, (MapKept.bytes_beq p p).2 rfl, hmod, MapKept.run_setObj_map _ h4, Result.andThen, setBlock]
  have hE := ext_setBlock (w := w) (Obj.map es c) h3
  have hfit := hF.setobj (a' := a) (m := m) (b := b) (by rw [hm']; rfl) h6 h3 (obj := .map es c) (ob := .mp xs) ⟨b, _, _, h1, h2, h3, setBlock_same _ hlt, h5.ext hE, h6, hst⟩
    (tw := none) (fun _ => rfl) (fun _ _ h => by cases h) [m]
  unfold Oper.wp
  rw [hrun]
  have : a.put o.dst undef = a := by rw [hdn]; rfl
  unfold Oper.upon
  simp only [this]
  exact hK _ _ ⟨hs.d, hs.s, below_setBlock hs.b h2 _, _, hfit⟩
end
end Go.Proofs.YtakmjlpciicaiaaGreatDoor.Av

namespace Go.Proofs.YtakmjlpciicaiaaGreatDoor.Av
open Go Go.RowKit Go.ChangeMaps
def mput (td : TypeDesc) (k : Value) (d : DV) : List (Value × DV) → List (Value × DV)
  | [] => [(k, d)]
  | x :: xs => match Instr.sameNow td k x.1 with
    | some true => (k, d) :: xs
    | _ => x :: mput td k d xs
theorem same_key {td : TypeDesc} {k v : Value} (h : Instr.sameNow td k v = some true) : k = v := sameNow_eq h
theorem ents_put {w : World} {U : Nat → Nat} {td : TypeDesc} {k u : Value} {d : DV} (hd : Rd w U u d) : ∀ (es : List MapEntry) (xs : List (Value × DV)) (i : Nat) {j : Nat} {v : Value}, Ents w U es xs → Instr.findNow td k es i = some (some (j, v)) →
    i ≤ j ∧ Ents w U (es.modify (j - i) fun e => { e with key := k, val := u }) (mput td k d xs)
  | [], xs, i, j, v, h, hf => by simp [Instr.findNow] at hf
  | e :: es, [], i, j, v, h, hf => by have := h.1; simp at this
  | e :: es, x :: xs, i, j, v, h, hf => by
    obtain ⟨h1, h2⟩ := h.2 0 e x rfl rfl
    have ht : Ents w U es xs := ⟨by have := h.1; simpa using this, fun j e x h3 h4 => h.2 (j + 1) e x (by simpa using h3) (by simpa using h4)⟩
    unfold Instr.findNow at hf
    rw [h1] at hf
    unfold mput
    cases hs : Instr.sameNow td k x.1 with
    | none => rw [hs] at hf; cases hf
    | some b =>
      rw [hs] at hf
      cases b with
      | true =>
        simp at hf
        obtain ⟨rfl, rfl⟩ := hf
        refine ⟨Nat.le_refl _, ?_⟩
        rw [Nat.sub_self]
        refine ⟨by simp [ht.1], fun q e' x' hq hx => ?_⟩
        cases q with
        | zero => simp at hq hx; subst hq hx; exact ⟨rfl, hd⟩
        | succ q => simp at hq hx; exact ht.2 q e' x' hq hx
      | false =>
        simp only at hf
        obtain ⟨g1, g2⟩ := ents_put hd es xs (i + 1) ht hf
        refine ⟨by omega, ?_⟩
        rw [show j - i = (j - (i + 1)) + 1 by omega]
        refine ⟨by simpa using g2.1, fun q e' x' hq hx => ?_⟩
        cases q with
        | zero => simp at hq hx; subst hq hx; exact ⟨h1, h2⟩
        | succ q => simp at hq hx; exact g2.2 q e' x' hq hx
section
variable {P : Program} {N : Nat} {w0 : World} {U0 : Nat → Nat}
theorem op_mapSet {o : Oper} {σ : AS} {t : TypeId} {x y z : Operand} (ho : o.op = .mapUpdate t x y z) (hdn : o.dst = none) {kt et : TypeId} (ht : P.underlying t = some (.map kt et)) {td : TypeDesc} (hk : P.underlying kt = some td) (htd : keyTd td = true)
    {m : Nat} {xs : List (Value × DV)} (hx : σ.ev x = .ow m) (hm : σ.n m = .mp xs) {k : Value} (hy : σ.ev y = .d (.fl k)) {d0 : DV} (hr : mfind td k xs = some (some d0)) {d : DV} (hz : σ.ev z = .d d)
    (hstay : ∀ w : World, (Instr.keyThatStays k k).run P w = .ok k w) :
    OpS P N w0 U0 o σ ⟨none, [(m, .mp (mput td k d xs))], [m], []⟩ := by
  intro σ' hok a w hs K Q hK
  obtain ⟨F, hF⟩ := hs.f
  have hv : a.eval x = F.γ m := ev_get hok hF (x := x) (by simp [ho, Op.operands]) hx
  have hkv : a.eval y = k := flat_val (ev_get hok hF (x := y) (by simp [ho, Op.operands]) hy)
  have hvz : Rd w F.U (a.eval z) d := ev_get hok hF (x := z) (by simp [ho, Op.operands]) hz
  have hm' : σ'.n m = .mp xs := by rw [hok.n m (by simp)]; exact hm
  have hn := hF.n m
  rw [hm'] at hn
  obtain ⟨b, es, c, h1, h2, h3, h4, h5, h6, hst⟩ := hn
  have hlt : b < w.heap.size := (Array.getElem?_eq_some_iff.1 h4).1
  obtain ⟨_, g2⟩ := find_ents es.toList xs 0 h5 _ hr
  obtain ⟨j, u, g3, g4⟩ := g2 _ rfl
  obtain ⟨e, _, g5, g6, g7⟩ := find_at es.toList 0 g3
  have g5 : es[j]? = some e := by simpa using g5
  have g8 : k = e.key := same_key g7
  obtain ⟨_, hput⟩ := ents_put (k := k) hvz es.toList xs 0 h5 g3
  rw [Nat.sub_zero] at hput
  have hrun : (execOp a.eval o).run P w = .ok .skip (setBlock w b (.map (es.modify j fun e => { e with key := k, val := a.eval z }) c)) := by
    simp [execOp, ho, hv, h1, hkv, Instr.mapUpdate, run_underlying ht, MapKept.run_getObj_map h4, run_checkKey' hk htd, run_findKey' hk g3, g5, ← g8, hstay, MapKept.run_setObj_map _ h4, Result.andThen, setBlock]
  have hE := ext_setBlock (w := w) (Obj.map (es.modify j fun e => { e with key := k, val := a.eval z }) c) h3
  have hents : Ents (setBlock w b (.map (es.modify j fun e => { e with key := k, val := a.eval z }) c)) F.U (es.modify j fun e => { e with key := k, val := a.eval z }).toList (mput td k d xs) := by
    rw [Array.toList_modify]
    exact hput.ext hE
  have hfit := hF.setobj (a' := a) (m := m) (b := b) (by rw [hm']; rfl) h6 h3 (obj := .map (es.modify j fun e => { e with key := k, val := a.eval z }) c) (ob := .mp (mput td k d xs)) ⟨b, _, _, h1, h2, h3, setBlock_same _ hlt, hents, h6, MapKept.stamped_modify hst j _ (fun _ _ => rfl) (fun e' _ he' => by rw [he'] at g5; cases g5; exact g8)⟩
    (tw := none) (fun _ => rfl) (fun _ _ h => by cases h) [m]
  unfold Oper.wp
  rw [hrun]
  have : a.put o.dst undef = a := by rw [hdn]; rfl
  unfold Oper.upon
  simp only [this]
  exact hK _ _ ⟨hs.d, hs.s, below_setBlock hs.b h2 _, _, hfit⟩
theorem stays_str (s : ByteArray) (w : World) : (Instr.keyThatStays (.string s) (.string s)).run P w = .ok (.string s) w := by
  simp [Instr.keyThatStays, Instr.sameBits, (MapKept.bytes_beq s s).2 rfl, Result.andThen]
end
end Go.Proofs.YtakmjlpciicaiaaGreatDoor.Av
