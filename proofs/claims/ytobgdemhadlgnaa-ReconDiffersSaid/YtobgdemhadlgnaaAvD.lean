/- Rules for states of data. Conditions: as each theorem names them. -/
import Derived.Test.YtobgdemhadlgnaaAvC
import Derived.Laws.Shifts
import Derived.Laws.Unary
import Derived.Laws.Entries
import Derived.Lib.ConvBytes
import Derived.Lib.AppendStr
import Derived.Laws.IdiomCopy
import Derived.Laws.MakeOwn
import Derived.Laws.Slices
import Derived.LoopN
set_option linter.unusedSimpArgs false
set_option linter.unusedVariables false
namespace Go.Proofs.Ytobgdemhadlgnaa.Av
open Go Go.RowKit
section
variable {P : Program} (t : TypeId) (k yk : IntKind) (a b : Int) (x y : Operand) (w : World)
theorem b_xor : (do eqGuard .xor t x y (.int k a) (.int k b); binOp .xor t (.int k a) (.int k b) : Sem Value).run P w = .ok (.int k (bits .xor k a b)) w := by simp [eqGuard, binOp_xor, intBits_xor]
theorem b_or : (do eqGuard .or t x y (.int k a) (.int k b); binOp .or t (.int k a) (.int k b) : Sem Value).run P w = .ok (.int k (bits .or k a b)) w := by simp [eqGuard, binOp_or, intBits_or]
theorem b_and : (do eqGuard .and t x y (.int k a) (.int k b); binOp .and t (.int k a) (.int k b) : Sem Value).run P w = .ok (.int k (bits .and k a b)) w := by simp [eqGuard, binOp_and, intBits_and]
theorem b_shl (h : 0 ≤ b) : (do eqGuard .shl t x y (.int k a) (.int yk b); binOp .shl t (.int k a) (.int yk b) : Sem Value).run P w = .ok (.int k (k.wrap (a * 2 ^ min b.toNat k.bits))) w := by simp [eqGuard, binOp_shl, shift_shl_any k yk a b h]
theorem b_shr (h : 0 ≤ b) : (do eqGuard .shr t x y (.int k a) (.int yk b); binOp .shr t (.int k a) (.int yk b) : Sem Value).run P w = .ok (.int k (a / 2 ^ min b.toNat k.bits)) w := by simp [eqGuard, binOp_shr, shift_shr_any k yk a b h]
theorem b_quoK (h0 : 0 ≤ a) (hc : 0 < b) : (do eqGuard .quo t x y (.int k a) (.int k b); binOp .quo t (.int k a) (.int k b) : Sem Value).run P w = .ok (.int k (k.wrap (a / b))) w := by
  have : b ≠ 0 := by omega
  simp [eqGuard, binOp, Op.intDiv, this, Int.tdiv_eq_ediv_of_nonneg h0]
theorem b_remK (h0 : 0 ≤ a) (hc : 0 < b) : (do eqGuard .rem t x y (.int k a) (.int k b); binOp .rem t (.int k a) (.int k b) : Sem Value).run P w = .ok (.int k (a % b)) w := by
  have : b ≠ 0 := by omega
  simp [eqGuard, binOp, Op.intDiv, this, Int.tmod_eq_emod_of_nonneg h0]
end
end Go.Proofs.Ytobgdemhadlgnaa.Av

namespace Go.Proofs.Ytobgdemhadlgnaa.Av
open Go Go.RowKit
section
variable {P : Program} {N : Nat} {w0 : World} {U0 : Nat → Nat}
theorem op_convK {o : Oper} {σ : AS} {src dst : TypeId} {x : Operand} (ho : o.op = .convert src dst x) {k0 k k' : IntKind} {n : Int} (hs : P.underlying src = some (.int k0)) (ht : P.underlying dst = some (.int k)) (hx : σ.ev x = .d (.fl (.int k' n))) (hd : dOk o N = true) : OpS P N w0 U0 o σ ⟨o.dst.map fun d => (d, .d (.fl (.int k (k.wrap n)))), [], [], []⟩ :=
  opS_still hd fun σ' hok a w F hF => by
    have h1 := flat_val (ev_get hok hF (x := x) (by simp [ho, Op.operands]) hx)
    exact ⟨.int k (k.wrap n), by simp [execOp, ho, h1, convert, run_underlying hs, run_underlying ht, Conv.intToInt], .fl _⟩
end
end Go.Proofs.Ytobgdemhadlgnaa.Av

namespace Go.Proofs.Ytobgdemhadlgnaa.Av
open Go Go.RowKit
/-- own row in, own row out -/
def CtrT (P : Program) (f : FuncId) (e : TypeId) (z : Nat) (rows : List (List OC)) (args : List DV) (rows' : List (List OC)) : Prop :=
  ∀ (v : Value) (vals : List Value) (U : Nat → Nat) (S0 : Nat → Prop) (w : World), Rob 0 w (thF none v U S0) 0 (.tr e z rows) → Rds w U vals args →
    Calls P f (v :: vals).toArray w fun ex w' => ∃ rv U' S', ex = .returned rv ∧ Below 0 (bare w) w' ∧ (∀ g, g < w.heap.size → ¬ S0 g → w'.heap[g]? = w.heap[g]? ∧ U' g = U g) ∧ (∀ g, S' g → S0 g ∨ w.heap.size ≤ g) ∧ Rob 0 w' (thF none rv U' S') 0 (.tr e z rows')
section
variable {P : Program} {N : Nat} {w0 : World} {U0 : Nat → Nat}
def retT (t : Nat) (e : TypeId) (z : Nat) (rows' : List (List OC)) (H : World) (V : Nat → Nat) (Q : Nat → Prop) : Exit → AS → Prop
  | .normal, σ | .ret, σ => ∃ m, m ≠ 1 ∧ σ.t t = .ow m ∧ σ.n m = .tr e z rows' ∧ σ.n 1 = .pin H V Q
  | _, _ => False
theorem ctrT {f : FuncId} {fn : Func} {c : Code} {e : TypeId} {z : Nat} {rows rows' : List (List OC)} {args : List DV} {n t : Nat} {L : List (Nat × AV)} (hf : P.funcs[f]? = some fn) (hb : fn.body = some c) (hn : fn.ntmps = n) (hr : fn.results = #[.tmp t]) (hl : Nat.ble (args.length + 1) n = true) (hL : args0 args 1 = L)
    (h : ∀ w0 U0 H V Q, A P n w0 U0 c (retT t e z rows' H V Q) (SS ((0, .ow 0) :: L) [(0, .tr e z rows), (1, .pin H V Q)])) : CtrT P f e z rows args rows' := by
  subst hn
  subst hL
  intro v vals U S0 w hob hR
  have hle := Nat.le_of_ble_eq_true hl
  have hsz : ((v :: vals).toArray ++ Array.replicate (fn.ntmps - (v :: vals).toArray.size) undef).size = fn.ntmps := by have := hR.1; simp; omega
  let F : Fr := ⟨fun _ => none, fun _ => v, U, fun j g => if j = 0 then S0 g else (g < w.heap.size ∧ ¬ S0 g)⟩
  have hget : ∀ t, ((v :: vals).toArray ++ Array.replicate (fn.ntmps - (v :: vals).toArray.size) undef).getD t undef = if t = 0 then v else if h : t - 1 < vals.length then vals[t - 1] else undef := by
    intro t
    cases t with
    | zero =>
      rw [Array.getD_eq_getD_getElem?, Array.getElem?_append_left (by simp)]
      simp
    | succ t =>
      rw [Array.getD_eq_getD_getElem?]
      rcases Nat.lt_or_ge t vals.length with ht | ht
      · rw [Array.getElem?_append_left (by simp; omega)]
        simp [ht]
      · rw [Array.getElem?_append_right (by simp; omega), Array.getElem?_replicate]
        simp only [Nat.add_one_ne_zero, if_false]
        rw [dif_neg (by omega)]
        split <;> rfl
  have hfit : Fits (bare w) U (SS ((0, AV.ow 0) :: args0 args 1) [(0, .tr e z rows), (1, .pin w U (fun g => g < w.heap.size ∧ ¬ S0 g))]) ⟨(v :: vals).toArray ++ Array.replicate (fn.ntmps - (v :: vals).toArray.size) undef, []⟩ w F := by
    refine ⟨fun b hb => rfl, fun t => ?_, fun m => ?_, fun m m' b h1 h2 h3 h4 => ?_⟩
    · show Rav w F (bif Nat.beq 0 t then AV.ow 0 else lk (args0 args 1) t) _
      rw [hget]
      cases t with
      | zero => rw [Nat.beq_refl, if_pos rfl]; rfl
      | succ t =>
        rw [nbeq (by omega), cond_false, args0_get, if_neg (by omega)]
        split
        · rename_i ht
          have hl := hR.1
          have ht' : t < args.length := by have := ht.2; omega
          simp only [Nat.add_sub_cancel]
          rw [dif_pos (by omega)]
          exact hR.2 t _ _ (List.getElem?_eq_getElem (by omega)) (List.getElem?_eq_getElem ht')
        · trivial
    · show Rob 0 w F m (bif Nat.beq 0 m then Ob.tr e z rows else bif Nat.beq 1 m then .pin w U _ else .no)
      by_cases h0 : m = 0
      · subst h0
        rw [Nat.beq_refl]
        exact hob.move (k := .r) rfl (fun _ => rfl) (fun _ => rfl) (fun b => by simp [F, thF]) rfl
      · rw [nbeq (Ne.symm h0), cond_false]
        by_cases h1 : m = 1
        · subst h1
          rw [Nat.beq_refl]
          exact ⟨fun b => by simp [F], fun b hq => ⟨Nat.zero_le _, hq.1, rfl, rfl⟩⟩
        · rw [nbeq (Ne.symm h1), cond_false]; trivial
    · have key : ∀ m, ((SS ((0, AV.ow 0) :: args0 args 1) [(0, .tr e z rows), (1, .pin w U (fun g => g < w.heap.size ∧ ¬ S0 g))]).n m).live = true → m = 0 ∨ m = 1 := by
        intro m hm
        by_cases h0 : m = 0
        · exact .inl h0
        · by_cases h1 : m = 1
          · exact .inr h1
          · have : (SS ((0, AV.ow 0) :: args0 args 1) [(0, .tr e z rows), (1, .pin w U (fun g => g < w.heap.size ∧ ¬ S0 g))]).n m = .no := by
              show (bif Nat.beq 0 m then Ob.tr e z rows else bif Nat.beq 1 m then _ else .no) = _
              rw [nbeq (Ne.symm h0), cond_false, nbeq (Ne.symm h1), cond_false]
            rw [this] at hm; cases hm
      rcases key m h1 with rfl | rfl <;> rcases key m' h2 with rfl | rfl
      · rfl
      · have g1 : S0 b := h3
        have g2 : b < w.heap.size ∧ ¬ S0 b := h4
        exact absurd g1 g2.2
      · have g1 : S0 b := h4
        have g2 : b < w.heap.size ∧ ¬ S0 b := h3
        exact absurd g1 g2.2
      · rfl
  refine calls_of_wp hf hb ((h (bare w) U w U (fun g => g < w.heap.size ∧ ¬ S0 g)).go _ w ⟨rfl, hsz, ⟨rfl, rfl, rfl, Nat.zero_le _, fun k hk => by have : k < 0 := hk; omega⟩, F, hfit⟩ _ (fun ex σ' a' w' hrr hs' => ?_))
  have key : (∃ m, m ≠ 1 ∧ σ'.t t = .ow m ∧ σ'.n m = .tr e z rows' ∧ σ'.n 1 = .pin w U (fun g => g < w.heap.size ∧ ¬ S0 g)) → a'.defers = [] ∧ ∃ x, (results fn a'.tmps).run P w' = .ok x w' ∧ ∃ rv U' S', Ending.returned x = .returned rv ∧ Below 0 (bare w) w' ∧ (∀ g, g < w.heap.size → ¬ S0 g → w'.heap[g]? = w.heap[g]? ∧ U' g = U g) ∧ (∀ g, S' g → S0 g ∨ w.heap.size ≤ g) ∧ Rob 0 w' (thF none rv U' S') 0 (.tr e z rows') := by
    rintro ⟨m, hm1, ht0, hn0, hn1⟩
    obtain ⟨F', hF⟩ := hs'.f
    have hp := hF.n 1
    rw [hn1] at hp
    obtain ⟨hp1, hp2⟩ := hp
    have ho : Rob 0 w' F' m (.tr e z rows') := by have := hF.n m; rwa [hn0] at this
    have hl0 : (σ'.n m).live = true := by rw [hn0]; rfl
    have hl1 : (σ'.n 1).live = true := by rw [hn1]; rfl
    have hav : a'.tmps.getD t undef = F'.γ m := by have := hF.t t; rw [ht0] at this; exact this
    refine ⟨hs'.d, a'.tmps.getD t undef, ?_, _, F'.U, F'.S m, rfl, hs'.b, fun g hg hS => ?_, fun g hg => ?_, ?_⟩
    · have hres : results fn a'.tmps = (fn.results.mapM (resVal a') >>= fun vs => pure (if h : vs.size = 1 then vs[0] else .tuple vs)) := rfl
      rw [hres, hr]
      simp [resVal, Act.eval]
    · obtain ⟨_, _, g3, g4⟩ := hp2 g ⟨hg, hS⟩
      exact ⟨g3, g4⟩
    · by_cases hS : S0 g
      · exact .inl hS
      · by_cases hlt : g < w.heap.size
        · exact absurd (hF.i m 1 g hl0 hl1 hg ((hp1 g).2 ⟨hlt, hS⟩)) hm1
        · exact .inr (by omega)
    · exact ho.move (k := .r) rfl (fun hk => by cases hk) (fun _ => by show a'.tmps.getD t undef = F'.γ m; exact hav) (fun b => Iff.rfl) rfl
  cases ex with
  | normal => exact key hrr
  | ret => exact key hrr
  | _ => exact hrr.elim
theorem op_callT {o : Oper} {σ : AS} {f : FuncId} {args : Array Operand} {ats : Array TypeId} (m : Nat) {m0 : Nat} (ho : o.op = .call { callee := .value (.func f), args := args, argTypes := ats }) {fn : Func} (hf : P.funcs[f]? = some fn) (hn : (fn.name == "runtime.NumGoroutine") = false) (hb : fn.body.isNone = false)
    {x : Operand} {xs : List Operand} (hxs : args.toList = x :: xs) (hx : σ.ev x = .ow m0) {e : TypeId} {z : Nat} {rows rows' : List (List OC)} (hm : σ.n m0 = .tr e z rows) {ds : List DV} {rns : List Nat} (ha : ArgsS σ xs ds rns) (hc : CtrT P f e z rows ds rows') (hd : dOk o N = true) :
    OpS P N w0 U0 o σ ⟨o.dst.map fun d => (d, .ow m), (m, .tr e z rows') :: [m0].map (fun q => (q, Ob.no)), m0 :: rns, [m]⟩ := by
  intro σ' hok a w hs K Q hK
  obtain ⟨F, hF⟩ := hs.f
  have hmem : ∀ y ∈ args.toList, σ'.ev y = σ.ev y := fun y hy => ev_ok hok (by simp [ho, Op.operands, Call.operands]; exact .inr (by simpa using hy))
  have hR := ha.get hF (fun j hj => hok.n j (by simp [hj])) (fun y hy => hmem y (by rw [hxs]; simp [hy]))
  have hm' : σ'.n m0 = .tr e z rows := (hok.n m0 (by simp)).trans hm
  have hv : a.eval x = F.γ m0 := by have := hF.ev x; rw [hmem x (by rw [hxs]; simp), hx] at this; exact this
  have hob : Rob w0.heap.size w F m0 (.tr e z rows) := by have := hF.n m0; rwa [hm'] at this
  have hlm : (σ'.n m0).live = true := by rw [hm']; rfl
  have hSB : ∀ b, F.S m0 b → w0.heap.size ≤ b ∧ b < w.heap.size := fun b hb => hob.lt rfl hb
  have hob0 : Rob 0 w (thF none (a.eval x) F.U (F.S m0)) 0 (.tr e z rows) := (hob.debase (k := .r) rfl).move (k := .r) rfl (fun hk => by cases hk) (fun _ => hv) (fun _ => Iff.rfl) rfl
  have hcall := hc (a.eval x) _ F.U (F.S m0) w hob0 hR
  unfold Oper.wp
  have hex : (execOp a.eval o).run P w = .ok (.enter f (a.eval x :: xs.map a.eval).toArray) w := by
    unfold execOp
    simp only [ho, resolve, Act.eval, Deferred.ofValue, invoke, Sem.run_bind, Sem.run_pure, Result.andThen_ok]
    have e1 : (#[] ++ Array.map a.eval args ++ #[] : Array Value) = (a.eval x :: xs.map a.eval).toArray := by
      apply Array.ext'
      simp [hxs]
    rw [e1]
    exact run_call hf hn hb _ w
  rw [hex, Oper.upon_enter]
  refine Calls.mono hcall ?_
  rintro ex w' ⟨rv, U', S', rfl, h1, h2, h3, h4⟩
  have hB := hs.b.size
  have hE : Ext w F.U w' U' := by
    refine ⟨fun b o u hc ho => ?_, fun q es c hq hu => ?_⟩
    · have hlt := World.block_lt_of_cell? w _ hc
      have hnS : ¬ F.S m0 b := fun hb => by have := hob.zero (k := .r) rfl hb; omega
      obtain ⟨g1, g2⟩ := h2 b hlt hnS
      exact ⟨(World.cell?_of_block g1).trans hc, by rw [g2]; exact ho⟩
    · have hlt : q < w.heap.size := (Array.getElem?_eq_some_iff.1 hq).1
      have hnS : ¬ F.S m0 q := fun hb => by have := hob.zero (k := .r) rfl hb; omega
      exact h2 q hlt hnS
  have hold : ∀ b, b < w0.heap.size → w'.heap[b]? = w.heap[b]? ∧ U' b = F.U b := fun b hb => h2 b (by omega) (fun hS => by have := (hSB b hS).1; omega)
  have hsz : w0.heap.size ≤ w'.heap.size := by
    rcases Nat.eq_zero_or_pos w0.heap.size with hz | hz
    · omega
    · have h6 := (hold (w0.heap.size - 1) (by omega)).1
      rw [Array.getElem?_eq_getElem (show w0.heap.size - 1 < w.heap.size by omega)] at h6
      have := (Array.getElem?_eq_some_iff.1 h6).1
      omega
  have hfit := hF.make (m := m) (ob := .tr e z rows') (ks := [m0]) (γv := rv) (βv := none) (Sm := S') (U' := U') (w' := w') (a' := a.put o.dst rv) (tw := o.dst.map fun d => (d, .ow m)) (hok.f m (by simp)) hE (fun b hb => (hold b hb).2)
    (fun k b hl hk hb hlt => h2 b hlt (fun hS => hk (by rw [hF.i k m0 b hl hlm hb hS]; simp)))
    (fun b hb => by
      rcases h3 b hb with h6 | h6
      · exact .inr ⟨m0, by simp, hlm, h6⟩
      · exact .inl h6)
    (by
      refine Rob.rebase (k := .r) rfl (h4.move (k := .r) rfl (fun hk => by cases hk) (fun _ => by simp [thF]) (fun b => by simp [thF]) rfl) (fun b hb => ?_)
      have hb' : S' b := by simpa using hb
      rcases h3 b hb' with h6 | h6
      · exact (hSB b h6).1
      · omega)
    (hta_put hd hs.s (.ow m) rv).1 (fun d v' h => by
      obtain ⟨rfl, h3⟩ := (hta_put hd hs.s (.ow m) rv).2 d v' h
      rw [h3]; exact (if_pos rfl).symm) (m0 :: rns) [m]
  exact hK _ _ ⟨by rw [put_defers]; exact hs.d, by rw [put_size]; exact hs.s, ⟨h1.os.trans hs.b.os, h1.tape.trans hs.b.tape, h1.output.trans hs.b.output, hsz, fun b hb => (hold b hb).1.trans (hs.b.block b hb)⟩, _, hfit⟩
end
end Go.Proofs.Ytobgdemhadlgnaa.Av

namespace Go.Proofs.Ytobgdemhadlgnaa.Av
open Go Go.RowKit
def bys (s : ByteArray) : List Int := s.data.toList.map fun b => (b.toNat : Int)
theorem bys_len (s : ByteArray) : (bys s).length = s.size := by simp [bys]
theorem rI_flat (k : IntKind) : ∀ l : List Int, (l.map (rI k)).flatten = l.map fun x => DV.fl (.int k x)
  | [] => rfl
  | a :: l => by
    show [DV.fl (.int k a)] ++ (l.map (rI k)).flatten = _
    rw [rI_flat k l]; rfl
theorem iRow_flat (k : IntKind) (L : List Int) : (tD (rI k) L).flatten = (L.map fun x => DV.fl (.int k x)).map OC.dv := by
  unfold tD
  rw [flat_map_dv, rI_flat]
theorem rc_ints {w : World} {U : Nat → Nat} (k : IntKind) (L : List Int) : Rc w U (L.map fun x => Value.int k x) (L.map fun x => DV.fl (.int k x)) := by
  refine ⟨⟨by simp, fun j u d hu hdv => ?_⟩, fun u hu => ?_⟩
  · simp only [List.getElem?_map, Option.map_eq_some_iff] at hu hdv
    obtain ⟨z, hz, rfl⟩ := hu
    obtain ⟨z', hz', rfl⟩ := hdv
    rw [hz] at hz'; cases hz'
    exact .fl _
  · obtain ⟨z, _, rfl⟩ := List.mem_map.1 hu; rfl
section
variable {P : Program} {N : Nat} {w0 : World} {U0 : Nat → Nat}
/-- a new row of cells that own nothing -/
theorem op_rowNew {o : Oper} {σ : AS} {e : TypeId} (m : Nat) {rows : List (List DV)} {z : Nat} {rn : List Nat} (hd : dOk o N = true) (hz : ∀ r ∈ rows, r.length = z)
    (h : ∀ σ', (⟨o.dst.map fun d => (d, .ow m), (m, .tr e z (rows.map (·.map .dv))) :: ([] : List Nat).map (fun q => (q, Ob.no)), rn, [m]⟩ : Eff).ok o σ σ' → ∀ a w F, Fits w0 U0 σ' a w F → w0.heap.size ≤ w.heap.size →
      ∃ c cur, (execOp a.eval o).run P w = .ok (.value (.slice (some ⟨w.heap.size, 0, none⟩) rows.length c)) (w.alloc (.cells cur e)) ∧ rows.length ≤ c ∧ c ≤ maxLen ∧ cur.size = c * z ∧ Rc w F.U (cur.toList.take (rows.length * z)) rows.flatten) :
    OpS P N w0 U0 o σ ⟨o.dst.map fun d => (d, .ow m), (m, .tr e z (rows.map (·.map .dv))) :: ([] : List Nat).map (fun q => (q, Ob.no)), rn, [m]⟩ := by
  intro σ' hok a w hst K Q hK
  obtain ⟨F, hF⟩ := hst.f
  obtain ⟨c, cur, hex, h1, h2, h3, h4⟩ := h σ' hok a w F hF hst.b.size
  unfold Oper.wp
  rw [hex]
  have hU2 : ∀ b, b < w.heap.size → (fun b => if b = w.heap.size then 0 else F.U b) b = F.U b := fun b hb => by simp; intro h; omega
  have hE : Ext w F.U (w.alloc (.cells cur e)) (fun b => if b = w.heap.size then 0 else F.U b) := Up.ext ⟨fun b hlt => Below.heap_alloc w _ b hlt, hU2⟩
  have hlen : (rows.map (·.map OC.dv)).length = rows.length := by simp
  have hxl : (cur.toList.take (rows.length * z)).length = rows.length * z := by
    have := Nat.mul_le_mul_right z h1
    simp; omega
  have hfit := hF.make (m := m) (ob := .tr e z (rows.map (·.map .dv))) (ks := []) (γv := .slice (some ⟨w.heap.size, 0, none⟩) rows.length c) (βv := none) (Sm := fun b => b = w.heap.size) (U' := fun b => if b = w.heap.size then 0 else F.U b) (w' := w.alloc (.cells cur e)) (a' := a.put o.dst (.slice (some ⟨w.heap.size, 0, none⟩) rows.length c)) (tw := o.dst.map fun d => (d, .ow m)) (hok.f m (by simp)) hE (fun b hb => hU2 b (by have := hst.b.size; omega)) (fun k b _ _ _ hlt => ⟨Below.heap_alloc w _ b hlt, hU2 b hlt⟩) (fun b h => .inl (by omega))
    ⟨cur.toList.take (rows.length * z), fun _ _ => False, by
      simp only [↓reduceIte, hlen]
      exact ⟨hxl, .inr ⟨w.heap.size, c, cur, rfl, hst.b.size, Go.heap_alloc_new w _, h1, h2, h3, rfl⟩⟩, by rw [flat_map_dv]; exact Tcs.ofRc (h4.ext hE), (fun r hr => by
      obtain ⟨r', h5, rfl⟩ := List.mem_map.1 hr
      simpa using hz r' h5), fun b hb => by
      simp only [↓reduceIte] at hb
      injection hb with hb
      subst hb
      exact ⟨by simp, fun _ h => h⟩, fun b => by
      simp only [↓reduceIte]
      constructor
      · intro h; exact .inl (by rw [h]; rfl)
      · rintro (h | ⟨_, h⟩)
        · injection h with h; exact h.symm
        · exact h.elim⟩
    (hta_put hd hst.s (.ow m) _).1 (fun d v h => by
      obtain ⟨rfl, h3⟩ := (hta_put hd hst.s (.ow m) (.slice (some ⟨w.heap.size, 0, none⟩) rows.length c)).2 d v h
      rw [h3]; exact (if_pos rfl).symm) rn [m]
  exact hK _ _ ⟨by rw [put_defers]; exact hst.d, by rw [put_size]; exact hst.s, hst.b.alloc hst.b.size _, _, hfit⟩
theorem size_madeCells' (z : Array Value) (n : Nat) : (madeCells z n).size = n := by simp [madeCells]
/-- room for rows -/
theorem op_make0 {o : Oper} {σ : AS} {t : TypeId} {x y : Operand} (m : Nat) (ho : o.op = .makeSlice t x y) {e : TypeId} {zv : Value} {sz b : Nat} (ht : P.underlying t = some (.slice e)) (hi : TI P e zv sz b) {k1 k2 : IntKind} {c : Int} (hx : σ.ev x = .d (.fl (.int k1 0))) (hy : σ.ev y = .d (.fl (.int k2 c))) (h0 : 0 ≤ c) (hc : c ≤ 8796093022208) (hcb : (b : Int) * c ≤ 281474976710656) (hd : dOk o N = true) :
    OpS P N w0 U0 o σ ⟨o.dst.map fun d => (d, .ow m), (m, .tr e sz []) :: ([] : List Nat).map (fun q => (q, Ob.no)), [], [m]⟩ := by
  obtain ⟨i, i1, i2, i3, i4⟩ := hi
  subst i3
  subst i4
  refine op_rowNew (rows := []) m hd (fun r hr => by cases hr) fun σ' hok a w F hF hs => ?_
  have h1 := flat_val (ev_get hok hF (x := x) (by simp [ho, Op.operands]) hx)
  have h2 := flat_val (ev_get hok hF (x := y) (by simp [ho, Op.operands]) hy)
  have hr := run_make (P := P) w t e i zv ht i1 i2 k1 k2 0 c (by omega) h0 hcb (by omega)
  refine ⟨c.toNat, madeCells zv.cells (c.toNat * i.size), ?_, Nat.zero_le _, by unfold maxLen; omega, size_madeCells' _ _, ?_⟩
  · unfold execOp
    simp only [ho, h1, h2, Sem.run_bind, hr, Result.andThen_ok, Sem.run_pure]
    rfl
  · have h9 : Rc w F.U [] [] := ⟨Rds.nil, fun u hu => by cases hu⟩
    simpa only [List.length_nil, Nat.zero_mul, List.take_zero, List.flatten_nil] using h9
/-- a row of zeros -/
theorem op_makeI {o : Oper} {σ : AS} {t : TypeId} {x y : Operand} (m : Nat) (ho : o.op = .makeSlice t x y) {e : TypeId} {k : IntKind} {b : Nat} (ht : P.underlying t = some (.slice e)) (hi : TI P e (.int k 0) 1 b) {k1 k2 : IntKind} {l c : Int} {n : Nat} (hx : σ.ev x = .d (.fl (.int k1 l))) (hy : σ.ev y = .d (.fl (.int k2 c))) (hn : l = (n : Int)) (h0 : l ≤ c) (hc : c ≤ 8796093022208) (hcb : (b : Int) * c ≤ 281474976710656) (hd : dOk o N = true) :
    OpS P N w0 U0 o σ ⟨o.dst.map fun d => (d, .ow m), (m, .tr e 1 (tD (rI k) (List.replicate n 0))) :: ([] : List Nat).map (fun q => (q, Ob.no)), [], [m]⟩ := by
  obtain ⟨i, i1, i2, i3, i4⟩ := hi
  subst i4
  subst hn
  have hlen : ((List.replicate n (0 : Int)).map (rI k)).length = n := by simp
  refine op_rowNew (rows := (List.replicate n (0 : Int)).map (rI k)) m hd (fun r hr => by
    obtain ⟨x, _, rfl⟩ := List.mem_map.1 hr; rfl) fun σ' hok a w F hF hs => ?_
  have h1 := flat_val (ev_get hok hF (x := x) (by simp [ho, Op.operands]) hx)
  have h2 := flat_val (ev_get hok hF (x := y) (by simp [ho, Op.operands]) hy)
  have hr := run_make (P := P) w t e i (.int k 0) ht i1 i2 k1 k2 (n : Int) c (by omega) h0 hcb (by omega)
  rw [hlen]
  refine ⟨c.toNat, madeCells (Value.int k 0).cells (c.toNat * i.size), ?_, by omega, by unfold maxLen; omega, by rw [size_madeCells', i3], ?_⟩
  · unfold execOp
    simp only [ho, h1, h2, Sem.run_bind, hr, Result.andThen_ok, Sem.run_pure]
    rfl
  · rw [rI_flat]
    have e1 : (madeCells (Value.int k 0).cells (c.toNat * i.size)).toList.take (n * 1) = (List.replicate n (0 : Int)).map fun x => Value.int k x := by
      apply List.ext_getElem?
      intro j
      rcases Nat.lt_or_ge j n with hj | hj
      · rw [List.getElem?_take_of_lt (by omega)]
        have hj' : j < c.toNat * i.size := by rw [i3]; omega
        simp [madeCells, hj, hj', Nat.mod_one, Value.cells]
      · rw [List.getElem?_eq_none (by simp [madeCells]; omega), List.getElem?_eq_none (by simp; exact hj)]
    rw [e1]
    exact rc_ints k _
/-- the bytes of a string, in new memory -/
theorem op_bytesOf {o : Oper} {σ : AS} {src dst e : TypeId} {x : Operand} (ho : o.op = .convert src dst x) (hs : P.underlying src = some .string) (ht : P.underlying dst = some (.slice e)) (he : P.underlying e = some (.int .u8)) {s : ByteArray} (hx : σ.ev x = .d (.fl (.string s))) (hl : s.size ≤ 140737488355328) (hd : dOk o N = true) :
    OpS P N w0 U0 o σ ⟨o.dst.map fun d => (d, .d (.sl 1 ((bys s).map (rI .u8)))), [], [], []⟩ :=
  opS_val (P := P) (av := .d (.sl 1 ((bys s).map (rI .u8)))) hd fun σ' hok a w F hF hw => by
    have h1 := flat_val (ev_get hok hF (x := x) (by simp [ho, Op.operands]) hx)
    have hr := Lib.run_convert_string_bytes (P := P) w src dst e s hs ht he
    have hU2 : ∀ b, b < w.heap.size → (fun b => if b = w.heap.size then s.size else F.U b) b = F.U b := fun b hb => by simp; intro h; omega
    have hB : Below w.heap.size w (Lib.bytesWorld w e s) := by
      refine ⟨rfl, rfl, rfl, by rw [Lib.bytesWorld_size]; omega, fun k hk => ?_⟩
      exact Lib.bytesWorld_at_old w e s k hk
    refine ⟨.slice (some ⟨w.heap.size, 0, none⟩) s.size (grownCap w s.size 0 e), Lib.bytesWorld w e s, fun b => if b = w.heap.size then s.size else F.U b, ?_, hB, hU2, ?_⟩
    · unfold execOp
      simp only [ho, h1, Sem.run_bind, hr, Result.andThen_ok, Sem.run_pure]
    · have hge := grownCap_ge w s.size 0 e
      refine .sl w.heap.size 0 s.size _ 1 ((bys s).map (rI .u8)) (fun i _ => .int .u8 (s.data.toList.getD i 0).toNat) (by simp [bys]) (fun r hr => by
        obtain ⟨x, _, rfl⟩ := List.mem_map.1 hr; rfl) ⟨by omega, hge⟩ (fun i j y hy => ?_) (fun i j y hy => ?_)
      all_goals
        unfold cellAt at hy
        obtain ⟨r, hr', hj⟩ := Option.bind_eq_some_iff.1 hy
        rw [List.getElem?_map] at hr'
        obtain ⟨x, hx', rfl⟩ := Option.map_eq_some_iff.1 hr'
        have hi : i < s.size := by have := (List.getElem?_eq_some_iff.1 hx').1; rwa [bys_len] at this
        have hj0 : j = 0 := by
          have := (List.getElem?_eq_some_iff.1 hj).1
          simp [rI] at this; omega
        subst hj0
      · refine ⟨?_, ?_, rfl⟩
        · rw [Nat.zero_add, Nat.mul_one, Nat.add_zero]
          exact Lib.bytesWorld_cell w e s i hi
        · simp; exact hi
      · simp [rI] at hj
        subst hj
        have hd' : i < s.data.toList.length := by simpa using hi
        simp only [bys, List.getElem?_map, List.getElem?_eq_getElem hd', Option.map_some, Option.some.injEq] at hx'
        have e2 : s.data.toList.getD i 0 = s.data.toList[i] := by rw [List.getD_eq_getElem?_getD, List.getElem?_eq_getElem hd']; rfl
        rw [e2, hx']
        exact .fl _
end
end Go.Proofs.Ytobgdemhadlgnaa.Av

namespace Go.Proofs.Ytobgdemhadlgnaa.Av
open Go Go.RowKit
section
variable {P : Program} {N : Nat} {w0 : World} {U0 : Nat → Nat}
theorem op_rowOn {o : Oper} {σ : AS} {e : TypeId} (m : Nat) {m0 z : Nat} {rows rows' : List (List DV)} {rn : List Nat} (hm : σ.n m0 = .tr e z (rows.map (·.map .dv))) (hd : dOk o N = true) (hz : ∀ r ∈ rows', r.length = z)
    (h : ∀ σ', (⟨o.dst.map fun d => (d, .ow m), (m, .tr e z (rows'.map (·.map .dv))) :: [m0].map (fun q => (q, Ob.no)), m0 :: rn, [m]⟩ : Eff).ok o σ σ' → ∀ a w F xs, Fits w0 U0 σ' a w F → w0.heap.size ≤ w.heap.size → w.ownsRow w0.heap.size e z (F.γ m0) rows.length xs → Rc w F.U xs rows.flatten →
      ∃ v' w' xs', (execOp a.eval o).run P w = .ok (.value v') w' ∧ Below w0.heap.size w w' ∧ w'.ownsRow w0.heap.size e z v' rows'.length xs' ∧ (∀ b, b < w.heap.size → (F.γ m0).ownBlock ≠ some b → w'.heap[b]? = w.heap[b]?) ∧ (∀ g, v'.ownBlock = some g → w.heap.size ≤ g ∨ (F.γ m0).ownBlock = some g) ∧ ∀ U, Rc w' U xs' rows'.flatten) :
    OpS P N w0 U0 o σ ⟨o.dst.map fun d => (d, .ow m), (m, .tr e z (rows'.map (·.map .dv))) :: [m0].map (fun q => (q, Ob.no)), m0 :: rn, [m]⟩ := by
  intro σ' hok a w hst K Q hK
  obtain ⟨F, hF⟩ := hst.f
  have hm' : σ'.n m0 = .tr e z (rows.map (·.map .dv)) := by rw [hok.n m0 (by simp)]; exact hm
  have hlive : (σ'.n m0).live = true := by rw [hm']; rfl
  have hob := hF.n m0
  rw [hm'] at hob
  obtain ⟨xs, T, g1, g2, g3, g4, g5⟩ := hob
  rw [flat_map_dv] at g2
  obtain ⟨hrc, hno⟩ := Tcs.noDv g2
  rw [List.length_map] at g1
  obtain ⟨v', w', xs', hex, hB, k1, k2, k3, k4⟩ := h σ' hok a w F xs hF hst.b.size g1 hrc
  unfold Oper.wp
  rw [hex]
  obtain ⟨U', hU'⟩ : ∃ U' : Nat → Nat, U' = fun b => if v'.ownBlock = some b then 0 else F.U b := ⟨_, rfl⟩
  have hU1 : ∀ b, v'.ownBlock = some b → U' b = 0 := fun b hb => by rw [hU']; simp [hb]
  have hU2 : ∀ b, v'.ownBlock ≠ some b → U' b = F.U b := fun b hb => by rw [hU']; simp [hb]
  have hne : ∀ b, b < w.heap.size → (F.γ m0).ownBlock ≠ some b → v'.ownBlock ≠ some b := fun b hlt hb h => by
    rcases k3 b h with h | h
    · omega
    · exact hb h
  have hE : Ext w F.U w' U' := by
    refine ⟨fun b off u hcl ho' => ?_, fun r es c hr hu => ?_⟩
    · have hb : (F.γ m0).ownBlock ≠ some b := fun h => by have := (g4 b h).1; omega
      have hlt := World.block_lt_of_cell? w _ hcl
      exact ⟨(World.cell?_of_block (k2 b hlt hb)).trans hcl, by rw [hU2 b (hne b hlt hb)]; exact ho'⟩
    · have hb : (F.γ m0).ownBlock ≠ some r := fun h => by have := (g4 r h).1; omega
      have hlt := (Array.getElem?_eq_some_iff.1 hr).1
      exact ⟨k2 r hlt hb, hU2 r (hne r hlt hb)⟩
  have hown : ∀ b, (F.γ m0).ownBlock = some b → w0.heap.size ≤ b := fun b hb => (g1.lt b hb).1
  have hfit := hF.make (m := m) (ob := .tr e z (rows'.map (·.map .dv))) (ks := [m0]) (γv := v') (βv := none) (Sm := fun b => v'.ownBlock = some b) (U' := U') (w' := w') (a' := a.put o.dst v') (tw := o.dst.map fun d => (d, .ow m)) (hok.f m (by simp)) hE (fun b hb => hU2 b (hne b (by have := hst.b.size; omega) (fun h => by have := hown b h; omega)))
    (fun k b hl hk hb hlt => by
      have h5 : (F.γ m0).ownBlock ≠ some b := fun h => hk (by rw [hF.i k m0 b hl hlive hb ((g5 b).2 (.inl h))]; simp)
      exact ⟨k2 b hlt h5, hU2 b (hne b hlt h5)⟩)
    (fun b hb => by
      rcases k3 b hb with h | h
      · exact .inl h
      · exact .inr ⟨m0, by simp, hlive, (g5 b).2 (.inl h)⟩)
    (by
      refine ⟨xs', fun _ _ => False, by simp only [↓reduceIte, List.length_map]; exact k1, by rw [flat_map_dv]; exact Tcs.ofRc (k4 U'), fun r hr => ?_, fun b hb => ?_, fun b => ?_⟩
      · obtain ⟨y, hy, rfl⟩ := List.mem_map.1 hr
        simpa using hz y hy
      · simp only [↓reduceIte] at hb
        exact ⟨hU1 b hb, fun _ h => h⟩
      · simp only [↓reduceIte]
        exact ⟨fun h => .inl h, fun h => h.elim id (fun ⟨_, h⟩ => h.elim)⟩)
    (hta_put hd hst.s (.ow m) _).1 (fun d v'' h => by
      obtain ⟨rfl, h3⟩ := (hta_put hd hst.s (.ow m) v').2 d v'' h
      rw [h3]; exact (if_pos rfl).symm) (m0 :: rn) [m]
  exact hK _ _ ⟨by rw [put_defers]; exact hst.d, by rw [put_size]; exact hst.s, hst.b.trans hB, _, hfit⟩
theorem strCells_bys (s : ByteArray) : Lib.strCells s = (bys s).map fun x => Value.int .u8 x := by simp [Lib.strCells, bys, List.map_map, Function.comp_def]
/-- bytes of a string behind a row of bytes -/
theorem op_appendStr {o : Oper} {σ : AS} {t u e : TypeId} {s x : Operand} (m : Nat) (ho : o.op = .call { callee := .builtin .append, args := #[s, x], argTypes := #[t, u] })
    (ht : P.underlying t = some (.slice e)) (hu : P.underlying u = some .string) (hi : TI P e (.int .u8 0) 1 1) {m0 : Nat} {l : List Int} {q : ByteArray} (hs : σ.ev s = .ow m0) (hm : σ.n m0 = .tr e 1 (tD (rI .u8) l)) (hx : σ.ev x = .d (.fl (.string q))) (hbytes : l.length + q.size ≤ 140737488355328) (hd : dOk o N = true) :
    OpS P N w0 U0 o σ ⟨o.dst.map fun d => (d, .ow m), (m, .tr e 1 (tD (rI .u8) (l ++ bys q))) :: [m0].map (fun q => (q, Ob.no)), [m0], [m]⟩ := by
  obtain ⟨i, i1, i2, i3, i4⟩ := hi
  refine op_rowOn (rows := l.map (rI .u8)) (rows' := (l ++ bys q).map (rI .u8)) (rn := []) m hm hd (fun r hr => by
    obtain ⟨x, _, rfl⟩ := List.mem_map.1 hr; rfl) fun σ' hok a w F xs hF hw hown hrc => ?_
  have hv0 : a.eval s = F.γ m0 := ev_get hok hF (x := s) (by simp [ho, Op.operands, Call.operands]) hs
  have hvx := flat_val (ev_get hok hF (x := x) (by simp [ho, Op.operands, Call.operands]) hx)
  rw [List.length_map] at hown
  rw [rI_flat] at hrc
  have hxs : xs = l.map fun x => Value.int .u8 x := by
    apply List.ext_getElem?
    intro k
    rcases Nat.lt_or_ge k l.length with hk | hk
    · have hxl : k < xs.length := by rw [hown.1]; omega
      have := hrc.1.2 k _ (.fl (.int .u8 l[k])) (List.getElem?_eq_getElem hxl) (by simp [hk])
      rw [List.getElem?_eq_getElem hxl, rd_fl this]; simp [hk]
    · rw [List.getElem?_eq_none (by rw [hown.1]; omega), List.getElem?_eq_none (by simp; exact hk)]
  subst hxs
  have hmx : l.length + q.size ≤ maxLen := by unfold maxLen; omega
  obtain ⟨v', w', hr, h1, h2, h3⟩ := Lib.run_append_own_string (P := P) w w0.heap.size t u o.type e i ht hu i1 i2 i3 i4 (F.γ m0) l.length _ hown q hmx hbytes hw
  have hloc : ∀ g, v'.ownBlock = some g → w.heap.size ≤ g ∨ (F.γ m0).ownBlock = some g := by
    intro g hg
    rcases hown.2 with ⟨e0, e00⟩ | ⟨g0, cap, cur, e1, e2, e3, e4, e5, e6, e7⟩
    · by_cases hq : q.size = 0
      · have := h3.2 ⟨e0, hq⟩
        rw [this] at hg; cases hg
      · have hr2 := run_append_nil_string (P := P) w t u o.type e i (.int .u8 0) ht hu i1 i2 q (by omega) (by omega) (by rw [i4]; omega)
        rw [e0] at hr
        rw [hr] at hr2
        have hv := (Result.ok.inj hr2).1
        rw [hv] at hg
        have : w.heap.size = g := by simpa [Value.ownBlock] using hg
        exact .inl (by omega)
    · rw [e1] at hr
      by_cases hroom : l.length + q.size ≤ cap
      · have hr2 := Lib.run_append_room_string (P := P) w t u o.type e i ht hu i1 i3 g0 l.length cap cur e3 q hroom (by omega)
        rw [hr] at hr2
        rw [(Result.ok.inj hr2).1] at hg
        rw [e1]
        exact .inr hg
      · have holds : ∀ j y, (l.map fun x => Value.int .u8 x)[j]? = some y → w.cell? ((⟨g0, 0, none⟩ : Addr).add j) = some y := hown.cells (g := g0) (by rw [e1]; rfl)
        have hr2 := Lib.run_append_grow_string (P := P) w t u o.type e i (.int .u8 0) ht hu i1 i2 ⟨g0, 0, none⟩ l.length cap (l.map fun x => Value.int .u8 x) (by rw [i3]; simp) holds q (by omega) (by omega) (by rw [i4]; exact growslice_fits (by omega) (by omega))
        rw [hr] at hr2
        rw [(Result.ok.inj hr2).1] at hg
        have : w.heap.size = g := by simpa [Value.ownBlock] using hg
        exact .inl (by omega)
  refine ⟨v', w', _, ?_, ?_, by simpa [bys_len] using h1, ?_, hloc, fun U => ?_⟩
  · unfold execOp
    simp only [ho, resolve, invoke, builtin, Sem.run_bind, Sem.run_pure, Result.andThen_ok, List.map_toArray, List.map_cons, List.map_nil, hv0, hvx, hr]
  · exact (Below.refl w0.heap.size w).grown h2 hw (fun k hk => (hown.lt k hk).1)
  · exact fun b hlt hb => h2.block b hlt (fun h => hb h.symm)
  · rw [strCells_bys, ← List.map_append, rI_flat]
    exact rc_ints .u8 _
theorem setCells_sz (b : Nat) : ∀ (vs : List Value) (o : Nat) (w : World), (w.setCells b o vs).heap.size = w.heap.size
  | [], _, _ => rfl
  | v :: vs, o, w => by
    show ((w.setCell ⟨b, o, none⟩ v).setCells b (o + 1) vs).heap.size = _
    rw [setCells_sz b vs]; simp [World.setCell]
/-- what copy does to a row of numbers -/
theorem op_copyI {o : Oper} {σ : AS} {t t' e : TypeId} {s x : Operand} (ho : o.op = .call { callee := .builtin .copy, args := #[s, x], argTypes := #[t, t'] })
    (ht : P.underlying t = some (.slice e)) {k : IntKind} {bb : Nat} (hi : TI P e (.int k 0) 1 bb) {m : Nat} {l l' : List Int} {rn : List Nat} {av : AV} (hs : σ.ev s = .ow m) (hm : σ.n m = .tr e 1 (tD (rI k) l)) (hx : σ.ev x = av) (hxv : AvD σ av (.sl 1 (l'.map (rI k))) rn) (hl : l'.length ≤ l.length) (hd : dOk o N = true) :
    OpS P N w0 U0 o σ ⟨o.dst.map fun d => (d, .d (.fl (.int .i64 l'.length))), [(m, .tr e 1 (tD (rI k) (l' ++ l.drop l'.length)))], m :: rn, []⟩ := by
  obtain ⟨i, i1, i2, i3, i4⟩ := hi
  intro σ' hok a w hst K Q hK
  obtain ⟨F, hF⟩ := hst.f
  have hv0 : a.eval s = F.γ m := ev_get hok hF (x := s) (by simp [ho, Op.operands, Call.operands]) hs
  have hvx : Rd w F.U (a.eval x) (.sl 1 (l'.map (rI k))) := hxv.get hF (fun q hq => hok.n q (by simp [hq])) (ev_get hok hF (x := x) (by simp [ho, Op.operands, Call.operands]) hx)
  have hm' : σ'.n m = .tr e 1 (tD (rI k) l) := by rw [hok.n m (by simp)]; exact hm
  have hob := hF.n m
  rw [hm'] at hob
  obtain ⟨xs, T, g1, g2, g3, g4, g5⟩ := hob
  rw [iRow_flat] at g2
  obtain ⟨hrc, hno⟩ := Tcs.noDv g2
  have hlen : (tD (rI k) l).length = l.length := tD_len
  rw [hlen] at g1
  have hxs : xs = l.map fun x => Value.int k x := by
    apply List.ext_getElem?
    intro j
    rcases Nat.lt_or_ge j l.length with hk | hk
    · have hxl : j < xs.length := by rw [g1.1]; omega
      have := hrc.1.2 j _ (.fl (.int k l[j])) (List.getElem?_eq_getElem hxl) (by simp [hk])
      rw [List.getElem?_eq_getElem hxl, rd_fl this]; simp [hk]
    · rw [List.getElem?_eq_none (by rw [g1.1]; omega), List.getElem?_eq_none (by simp; exact hk)]
  subst hxs
  have hinfo : (P.info? e).map (·.size) = some 1 := by rw [i1]; simp [i3]
  have hrun : ∀ n w', (Builtin.copy_ #[t, t'] o.type #[a.eval s, a.eval x]).run P w = .ok (goInt n) w' → (execOp a.eval o).run P w = .ok (.value (goInt n)) w' := by
    intro n w' hr
    unfold execOp
    simp only [ho, resolve, invoke, builtin, Sem.run_bind, Sem.run_pure, Result.andThen_ok, List.map_toArray, List.map_cons, List.map_nil, hr]
  rw [hv0] at hrun
  have hfin : ∀ (w' : World), Below w0.heap.size w w' → (∀ b, b < w.heap.size → (F.γ m).ownBlock ≠ some b → w'.heap[b]? = w.heap[b]?) → w'.heap.size = w.heap.size → w'.os = w.os → w'.tape = w.tape → w'.output = w.output → w'.ownsRow w0.heap.size e 1 (F.γ m) l.length ((l' ++ l.drop l'.length).map fun x => Value.int k x) → K (a.put o.dst (goInt l'.length)) w' := by
    intro w' hB h2 h3 ho1 ho2 ho3 h6
    have hll : (l' ++ l.drop l'.length).length = l.length := by simp; omega
    refine hK _ _ (callM_fit (o := o) (k := .r) (r := .d (.fl (.int .i64 l'.length))) (U' := F.U) (S' := F.S m) m hst hF hm' rfl rfl hd ⟨ho1, ho2, ho3, Nat.zero_le _, fun b hb => by omega⟩ (fun b hb hS => ⟨h2 b hb (fun h => hS ((g5 b).2 (.inl h))), rfl⟩) (fun b hb => .inl hb) ?_ (.fl _) (m :: rn))
    refine ⟨(l' ++ l.drop l'.length).map fun x => Value.int k x, fun _ _ => False, ?_, ?_, fun r hr => ?_, fun b hb => ⟨(g4 b hb).1, fun _ h => h⟩, fun b => ?_⟩
    · show w'.ownsRow 0 e 1 (F.γ m) (tD (rI k) _).length ((l' ++ l.drop l'.length).map fun x => Value.int k x)
      rw [tD_len, hll]
      exact Rc.base h6 (Nat.zero_le _)
    · rw [iRow_flat]
      exact Tcs.ofRc (rc_ints k _)
    · obtain ⟨y, hy, rfl⟩ := List.mem_map.1 hr
      obtain ⟨z, _, rfl⟩ := List.mem_map.1 hy; rfl
    · show F.S m b ↔ _
      rw [g5 b]
      exact ⟨fun h => h.elim .inl (fun ⟨q, hq⟩ => absurd hq (hno q b)), fun h => h.elim .inl (fun ⟨_, h⟩ => h.elim)⟩
  unfold Oper.wp
  by_cases hl0 : l' = []
  · subst hl0
    obtain ⟨As, cs, hvs⟩ : ∃ A c, a.eval x = .slice A 0 c := by
      generalize a.eval x = v at hvx
      cases hvx with
      | sn A c z => exact ⟨A, c, rfl⟩
      | sl b off n c z rows u hn => exact ⟨_, c, by rw [← hn]; rfl⟩
    obtain ⟨Ad, cd, hvd⟩ : ∃ A c, F.γ m = .slice A l.length c := by
      rcases g1.2 with ⟨e0, e00⟩ | ⟨g0, cap, cur, e1, _⟩
      · exact ⟨none, 0, by rw [e0, e00]⟩
      · exact ⟨_, cap, e1⟩
    have hr := run_copy_none (P := P) w t t' o.type e Ad As l.length cd 0 cs ht hinfo (by simp)
    rw [← hvs, ← hvd] at hr
    rw [hrun _ _ hr]
    exact hfin w (Below.refl _ _) (fun _ _ _ => rfl) rfl rfl rfl rfl (by simpa using g1)
  · have hpos : 0 < l'.length := List.length_pos_iff.2 hl0
    obtain ⟨ba, off, cs, hvs, news, n1, n2, n3⟩ : ∃ b off c, a.eval x = .slice (some ⟨b, off, none⟩) l'.length c ∧ ∃ news : List Value, news.length = l'.length ∧ (∀ j u, news[j]? = some u → w.cell? ((⟨b, off, none⟩ : Addr).add j) = some u) ∧ Rc w F.U news ((l'.map (rI k)).flatten) := by
      obtain ⟨R, hR⟩ : ∃ R, R = l'.map (rI k) := ⟨_, rfl⟩
      rw [← hR] at hvx
      generalize a.eval x = v at hvx
      cases hvx with
      | sn A c z => exact absurd (List.map_eq_nil_iff.1 hR.symm) hl0
      | sl b off n c z rows u hn hzz hmm hcell hrr =>
        subst hR
        have hr' : Rd w F.U (.slice (some ⟨b, off, none⟩) n c) (.sl 1 (l'.map (rI k))) := .sl b off n c 1 _ u hn hzz hmm hcell hrr
        obtain ⟨news, q1, q2, q3, q4, q5⟩ := rows_cells hr' (fun e => hl0 (by simpa using e)) (by omega)
        rw [List.length_map] at hn
        exact ⟨b, off, c, by rw [hn], news, by rw [q1]; omega, q4, q5⟩
    rw [rI_flat] at n3
    have hnews : news = l'.map fun x => Value.int k x := by
      apply List.ext_getElem?
      intro j
      rcases Nat.lt_or_ge j l'.length with hk | hk
      · have hxl : j < news.length := by omega
        have := n3.1.2 j _ (.fl (.int k l'[j])) (List.getElem?_eq_getElem hxl) (by simp [hk])
        rw [List.getElem?_eq_getElem hxl, rd_fl this]; simp [hk]
      · rw [List.getElem?_eq_none (by omega), List.getElem?_eq_none (by simp; exact hk)]
    subst hnews
    rcases g1.2 with ⟨_, e00⟩ | ⟨g, cap, cur, e1, e2, e3, e4, e5, e6, e7⟩
    · omega
    have hmin : Nat.min l'.length l.length = l'.length := Nat.min_eq_left hl
    have hcl : ∀ j, j < l.length → w.cell? ⟨g, 0 + j, none⟩ = (l.map fun x => Value.int k x)[j]? := fun j hj => by
      rw [Nat.zero_add, cell_of_row w g j cur e (0, 0) e3]
      have := take_get e7 (k := j) (by omega)
      simpa using this
    have hr := run_copy_cells (P := P) w t t' o.type e g 0 l.length cap ⟨ba, off, none⟩ l'.length cs (l'.map fun x => Value.int k x) ht hinfo (by rw [hmin]; simp) n2
      (fun j hj => by
        rw [List.length_map] at hj
        rw [hcl j (by omega), List.getElem?_map, List.getElem?_eq_getElem (by omega)]; rfl)
      (fun j hj => by rw [Nat.zero_add]; exact frozen_of_row w g j cur e e3) (fun v hv => by
        obtain ⟨z, _, rfl⟩ := List.mem_map.1 hv; rfl)
    rw [List.length_map, ← e1, ← hvs] at hr
    rw [hrun _ _ hr]
    obtain ⟨vs, hvs'⟩ : ∃ vs, vs = l'.map fun x => Value.int k x := ⟨_, rfl⟩
    rw [← hvs']
    have hvl : vs.length = l'.length := by rw [hvs']; simp
    obtain ⟨cur', c1, c2⟩ := heap_setCells_at vs 0 w cur e3
    have hglt : g < w.heap.size := (Array.getElem?_eq_some_iff.1 e3).1
    have hcells : ∀ k (hk : k < vs.length), cur'[k]? = some vs[k] := by
      intro j hj
      have := World.cell?_setCells_in g vs 0 w (fun q hq => by
        rw [hcl q (by omega), List.getElem?_map, List.getElem?_eq_getElem (by omega)]; rfl) j hj
      rw [Nat.zero_add, cell_of_row _ g j cur' e (0, 0) c1] at this
      exact this
    have hrest : ∀ q, vs.length ≤ q → cur'[q]? = cur[q]? := by
      intro q hq
      have := World.cell?_setCells_out g vs 0 w ⟨g, q, none⟩ (fun _ _ => Or.inr (by show 0 + vs.length ≤ q; omega))
      rw [cell_of_row _ g q cur' e (0, 0) c1, cell_of_row w g q cur e (0, 0) e3] at this
      exact this
    have hB := Lib.below_setCells_w (B := w0.heap.size) e2 vs 0 w
    refine hfin _ hB (fun b hb hne => World.heap_setCells_other w g 0 vs hb (fun h => hne (by rw [e1, h]; rfl))) (setCells_sz g vs 0 w) hB.os hB.tape hB.output ?_
    refine ⟨by simp; omega, .inr ⟨g, cap, cur', e1, e2, c1, e4, e5, by rw [c2, e6], ?_⟩⟩
    apply List.ext_getElem?
    intro j
    rcases Nat.lt_or_ge j l.length with hj | hj
    · rw [List.getElem?_take_of_lt (by omega)]
      rcases Nat.lt_or_ge j l'.length with hj' | hj'
      · have h5 := hcells j (by omega)
        simp only [Array.getElem?_toList, h5, List.map_append]
        rw [List.getElem?_append_left (by simp; exact hj')]
        subst hvs'
        simp [hj']
      · have h5 := hrest j (by omega)
        simp only [Array.getElem?_toList, h5, List.map_append]
        rw [List.getElem?_append_right (by simp; exact hj')]
        have := take_get e7 (k := j) (by omega)
        rw [Array.getElem?_toList] at this
        rw [this, List.length_map, List.getElem?_map, List.getElem?_map, List.getElem?_drop, show l'.length + (j - l'.length) = j by omega]
    · rw [List.getElem?_eq_none (by simp; omega), List.getElem?_eq_none (by simp; omega)]
end
end Go.Proofs.Ytobgdemhadlgnaa.Av

namespace Go.Proofs.Ytobgdemhadlgnaa.Av
open Go Go.RowKit
theorem tD_ok {α : Type} {f : α → List DV} {l : List α} : ∀ r ∈ tD f l, ∀ c ∈ r, c.ok = true := by
  intro r hr c hc
  obtain ⟨y, hy, rfl⟩ := List.mem_map.1 hr
  obtain ⟨x, hx, rfl⟩ := List.mem_map.1 hc
  rfl
theorem tD_rd {α : Type} {f : α → List DV} {l : List α} : (tD f l).map (·.map OC.rd) = l.map f := by
  unfold tD
  rw [List.map_map, List.map_map]
  apply List.map_congr_left
  intro x _
  show ((f x).map OC.dv).map OC.rd = f x
  rw [List.map_map]
  exact List.map_id _
section
variable {P : Program} {N : Nat} {w0 : World} {U0 : Nat → Nat}
theorem imp_leakT {L : List (Nat × AV)} {M : List (Nat × Ob)} (t m : Nat) {e : TypeId} {z : Nat} {α : Type} {f : α → List DV} {l : List α} (ht : lk L t = .ow m) (hm : ln M m = .tr e z (tD f l)) : Imp N w0 U0 (SS L M) (SS ((t, .d (.sl z (l.map f))) :: L) ((m, .no) :: M)) :=
  imp_leakE t m ht hm tD_ok tD_rd
theorem u_neg64 (a : Int) (w : World) (h : -9223372036854775807 ≤ a ∧ a ≤ 9223372036854775807) : (Op.unary .neg (.int .i64 a)).run P w = .ok (.int .i64 (-a)) w := by
  have e : IntKind.i64.wrap (-a) = -a := by rw [IntKind.wrap_i64]; omega
  have e2 : IntKind.i64.wrap (0 - a) = -a := by rw [Int.zero_sub]; exact e
  simp [Op.unary, Op.intArith, e, e2]
theorem w64n {n : Nat} (h : n ≤ 9223372036854775807) : IntKind.i64.wrap (n : Int) = (n : Int) := by unfold IntKind.wrap; simp [IntKind.signed, IntKind.bits]; omega
end
end Go.Proofs.Ytobgdemhadlgnaa.Av

namespace Go.Proofs.Ytobgdemhadlgnaa.Av
open Go Go.RowKit
def cI (k : IntKind) (x : Int) : DV := .fl (.int k x)
theorem cI_flat (k : IntKind) : ∀ l : List Int, (l.map (rI k)) = (l.map (cI k)).map fun c => [c] := by
  intro l; rw [List.map_map]; rfl
theorem set_split {α β : Type} (f : α → β) (l : List α) (j : Nat) (v : α) (h : j < l.length) : (l.map f).take j ++ [f v] ++ (l.map f).drop (j + 1) = (l.set j v).map f := by
  rw [List.map_set, List.set_eq_take_append_cons_drop, if_pos (by simpa using h)]
  simp
section
variable {P : Program} {N : Nat} {w0 : World} {U0 : Nat → Nat}
theorem op_index_arr {o : Oper} {σ : AS} {t e : TypeId} {x y : Operand} {n m j : Nat} (ho : o.op = .indexAddr t x y) (hu : P.underlying t = some (.array n e)) {zv : Value} {bb : Nat} (hi : TI P e zv 1 bb) (hx : σ.ev x = .pt m 0) {k : IntKind} {i : Int} (hy : σ.ev y = .d (.fl (.int k i))) (hj : i = (j : Int)) (h1 : j < n) (hd : dOk o N = true) :
    OpS P N w0 U0 o σ ⟨o.dst.map fun d => (d, .pt m j), [], [], []⟩ :=
  opS_still (av := .pt m j) hd fun σ' hok a w F hF => by
    obtain ⟨info, g1, _, g3, _⟩ := hi
    obtain ⟨b, hb, hv⟩ := ev_get hok hF (x := x) (by simp [ho, Op.operands]) hx
    have hyv := flat_val (ev_get hok hF (x := y) (by simp [ho, Op.operands]) hy)
    subst hj
    refine ⟨.pointer (some ⟨b, j, none⟩), ?_, b, hb, rfl⟩
    have h0 : (0 : Int) ≤ (j : Int) := by omega
    have h1' : (j : Int) < (n : Int) := by omega
    simp [execOp, ho, hv, hyv, Instr.indexAt, asIntOf, run_underlying hu, Instr.sureAddr, h0, h1, sizeOf, typeInfo, g1, g3, add_plain']
theorem op_storeA {o : Oper} {σ : AS} {t : TypeId} {x y : Operand} (ho : o.op = .store t x y) (hdn : o.dst = none) {zv : Value} {bb : Nat} (hi : TI P t zv 1 bb) {m j : Nat} (hx : (σ.ev x).ptOf = some (m, j)) {ty : TypeId} {k : IntKind} {L : List Int} (hm : σ.n m = .bx ty (L.map (cI k))) {v : Int} (hy : σ.ev y = .d (.fl (.int k v))) (hl : j < L.length) :
    OpS P N w0 U0 o σ ⟨none, [(m, .bx ty ((L.set j v).map (cI k)))], [m], []⟩ := by
  obtain ⟨info, g1, g2, g3, _⟩ := hi
  have h := op_store (P := P) (N := N) (w0 := w0) (U0 := U0) ho hdn g1 hx hm hy rfl (by rw [g3]; rfl) (by rw [g3, List.length_map]; omega)
  have e : (L.map (cI k)).take j ++ dvCells (.fl (.int k v)) ++ (L.map (cI k)).drop (j + (dvCells (.fl (.int k v))).length) = (L.set j v).map (cI k) := set_split (cI k) L j v hl
  rw [e] at h
  exact h
theorem op_sliceEl {o : Oper} {σ : AS} {t e : TypeId} {x : Operand} {n : Nat} (ho : o.op = .slice t x none none none) (hu : P.underlying t = some (.array n e)) {zv : Value} {bb : Nat} (hi : TI P e zv 1 bb) {L : List Int} {k : IntKind} (hx : σ.ev x = .d (.el (L.map (cI k)))) (hl : L.length = n) (h0 : 0 < n) (hn : n ≤ 9223372036854775807) (hd : dOk o N = true) :
    OpS P N w0 U0 o σ ⟨o.dst.map fun d => (d, .d (.sl 1 (L.map (rI k)))), [], [], []⟩ :=
  opS_still (av := .d (.sl 1 (L.map (rI k)))) hd fun σ' hok a w F hF => by
    obtain ⟨info, g1, _, g3, _⟩ := hi
    obtain ⟨b, off, hv, hc⟩ := elD (ev_get hok hF (x := x) (by simp [ho, Op.operands]) hx)
    refine ⟨.slice (some ⟨b, off, none⟩) n n, ?_, ?_⟩
    · have he : P.arrayLen t = n := by unfold Program.arrayLen; simp [hu]
      have hee : P.elem t = e := by unfold Program.elem; simp [hu]
      simp [execOp, ho, hv, Instr.sliceAt, run_underlying hu, Instr.sureAddr, Instr.sliceBounds, sizeOf, typeInfo, g1, asAddr, Instr.slice, add_plain', Result.andThen]
    · have hcell : ∀ i c, (L.map (cI k))[i]? = some c → ∃ u, w.cell? ⟨b, off + i, none⟩ = some u ∧ off + i < F.U b ∧ u.oneCell' = true ∧ Rd w F.U u c := hc
      refine .sl b off n n 1 (L.map (rI k)) (fun i _ => .int k (L.getD i 0)) (by rw [List.length_map]; exact hl) (fun r hr => by
        obtain ⟨x, _, rfl⟩ := List.mem_map.1 hr; rfl) ⟨hn, Nat.le_refl _⟩ (fun i j y hy => ?_) (fun i j y hy => ?_)
      all_goals
        unfold cellAt at hy
        obtain ⟨r, hr', hj⟩ := Option.bind_eq_some_iff.1 hy
        rw [List.getElem?_map] at hr'
        obtain ⟨x, hx', rfl⟩ := Option.map_eq_some_iff.1 hr'
        have hj0 : j = 0 := by
          have := (List.getElem?_eq_some_iff.1 hj).1
          simp [rI] at this; omega
        subst hj0
        have hg : L.getD i 0 = x := by rw [List.getD_eq_getElem?_getD, hx']; rfl
        obtain ⟨u, k1, k2, k3, k4⟩ := hcell i (cI k x) (by rw [List.getElem?_map, hx']; rfl)
        have hu' : u = .int k x := rd_fl k4
      · rw [Nat.mul_one, Nat.add_zero, hg, ← hu']
        exact ⟨k1, k2, k3⟩
      · simp [rI] at hj
        subst hj
        rw [hg]
        exact .fl _
end
end Go.Proofs.Ytobgdemhadlgnaa.Av

namespace Go.Proofs.Ytobgdemhadlgnaa.Av
open Go Go.RowKit
def RresW (w : World) (U : Nat → Nat) (B : Nat) (v : Value) (e : TypeId) (z : Nat) (rows : List (List DV)) : Prop :=
  ∃ xs, w.ownsRow B e z v rows.length xs ∧ Rc w U xs rows.flatten ∧ (∀ r ∈ rows, r.length = z) ∧ ∀ b, v.ownBlock = some b → U b = rows.length * z
/-- the result is a row of the caller's own; its elements are data -/
def CtrW (P : Program) (f : FuncId) (args : List DV) (e : TypeId) (z : Nat) (rows : List (List DV)) : Prop :=
  ∀ (vals : List Value) (U : Nat → Nat) (w : World), Rds w U vals args → Calls P f vals.toArray w fun ex w' => ∃ v U', ex = .returned v ∧ Below w.heap.size w w' ∧ (∀ b, b < w.heap.size → U' b = U b) ∧ RresW w' U' w.heap.size v e z rows
theorem RresO.leakW {w : World} {U : Nat → Nat} {B : Nat} {v : Value} {e : TypeId} {z : Nat} {rows : List (List OC)} (h : RresO w U B v (.tr e z rows)) (hok : ∀ r ∈ rows, ∀ c ∈ r, c.ok = true) : ∃ U', (∀ b, b < B → U' b = U b) ∧ RresW w U' B v e z (rows.map (·.map OC.rd)) := by
  obtain ⟨xs, T, g1, g2, g3, g4⟩ := h
  obtain ⟨U', hU'⟩ : ∃ U' : Nat → Nat, U' = fun b => if v.ownBlock = some b then rows.length * z else leakU U rows.flatten T b := ⟨_, rfl⟩
  have hUo : ∀ b, v.ownBlock = some b → U' b = rows.length * z := fun b hb => by rw [hU']; exact if_pos hb
  have hUT : ∀ k b c, T k b → rows.flatten[k]? = some c → U' b = c.len := fun k b c hk hc => by
    rw [hU']
    have hne : ¬ v.ownBlock = some b := fun hb => (g4 b hb).2 k hk
    show (if _ then _ else _) = _
    rw [if_neg hne]
    exact leakU_T g2.d hk hc
  have hUn : ∀ b, ¬ (v.ownBlock = some b ∨ ∃ k, T k b) → U' b = U b := fun b hb => by
    rw [hU']
    show (if _ then _ else _) = _
    rw [if_neg (fun h => hb (.inl h))]
    exact leakU_no (fun h => hb (.inr h))
  have hU0 : ∀ b, (v.ownBlock = some b ∨ ∃ k, T k b) → U b = 0 := fun b hb => by
    rcases hb with h | ⟨k, h⟩
    · exact (g4 b h).1
    · have hk := g2.b k b h
      have hl := g2.l
      have := g2.c k _ _ (List.getElem?_eq_getElem hk) (List.getElem?_eq_getElem (by omega))
      generalize rows.flatten[k]'(by omega) = c at this
      cases c with
      | un => exact absurd h (this b)
      | dv x => exact absurd h (this.2 b)
      | ow e2 z2 rows2 => obtain ⟨_, _, _, _, q4, q5⟩ := this; exact q5 b ((q4 b).1 h)
  have hE : Ext w U w U' := ⟨fun b o u hc ho' => ⟨hc, by
    by_cases hb : v.ownBlock = some b ∨ ∃ k, T k b
    · rw [hU0 b hb] at ho'; omega
    · rw [hUn b hb]; exact ho'⟩, fun r es c hr hu => ⟨rfl, hUn r (fun hb => by rw [hU0 r hb] at hu; omega)⟩⟩
  have hflat : (rows.map (·.map OC.rd)).flatten = rows.flatten.map OC.rd := by
    clear hok g3 g1 g2 g4 hUo hUT hUn hU'
    induction rows with
    | nil => rfl
    | cons r rows ih => simp only [List.map_cons, List.flatten_cons, List.map_append, ih]
  have hokf : ∀ c ∈ rows.flatten, c.ok = true := fun c hc => by
    obtain ⟨r, hr, hcr⟩ := List.mem_flatten.1 hc
    exact hok r hr c hcr
  have hrcl := g2.leak hokf hE hUT
  rw [← hflat] at hrcl
  refine ⟨U', fun b hb => hUn b (fun h => ?_), xs, by rw [List.length_map]; exact g1, hrcl, fun r hr => ?_, fun b hb => by rw [List.length_map]; exact hUo b hb⟩
  · rcases h with h | ⟨k, h⟩
    · have := (g1.lt b h).1; omega
    · have := (g2.lt h).1; omega
  · obtain ⟨r', h1, rfl⟩ := List.mem_map.1 hr
    simpa using g3 r' h1
theorem ctrW_of_O {P : Program} {f : FuncId} {args : List DV} {e : TypeId} {z : Nat} {rows : List (List OC)} {rows' : List (List DV)} (h : CtrO P f args (.tr e z rows)) (hok : ∀ r ∈ rows, ∀ c ∈ r, c.ok = true) (he : rows.map (·.map OC.rd) = rows') : CtrW P f args e z rows' := by
  subst he
  intro vals U w hR
  refine Calls.mono (h vals U w hR) ?_
  rintro ex w' ⟨v, U', rfl, h1, h2, h3⟩
  obtain ⟨U'', k1, k2⟩ := h3.leakW hok
  exact ⟨v, U'', rfl, h1, fun b hb => (k1 b hb).trans (h2 b hb), k2⟩
theorem ctr_of_W {P : Program} {f : FuncId} {args : List DV} {e : TypeId} {z : Nat} {rows : List (List DV)} (h : CtrW P f args e z rows) : Ctr P f args (.d (.sl z rows)) := by
  intro vals U w hR
  refine Calls.mono (h vals U w hR) ?_
  rintro ex w' ⟨v, U', rfl, h1, h2, xs, g1, g2, g3, g4⟩
  exact ⟨v, U', rfl, h1, h2, own_rd g1 g2 g3 g4⟩
theorem ctr_of_T {P : Program} {f : FuncId} {args : List DV} {e : TypeId} {z : Nat} {α : Type} {g : α → List DV} {l : List α} (h : CtrO P f args (.tr e z (tD g l))) : Ctr P f args (.d (.sl z (l.map g))) := ctr_of_W (ctrW_of_O h tD_ok tD_rd)
section
variable {P : Program} {N : Nat} {w0 : World} {U0 : Nat → Nat}
theorem op_callW {o : Oper} {σ : AS} {f : FuncId} {args : Array Operand} {ats : Array TypeId} (m : Nat) (ho : o.op = .call { callee := .value (.func f), args := args, argTypes := ats }) {fn : Func} (hf : P.funcs[f]? = some fn) (hn : (fn.name == "runtime.NumGoroutine") = false) (hb : fn.body.isNone = false)
    {ds : List DV} {rns : List Nat} {e : TypeId} {z : Nat} {rows : List (List DV)} (ha : ArgsS σ args.toList ds rns) (hc : CtrW P f ds e z rows) (hd : dOk o N = true) : OpS P N w0 U0 o σ ⟨o.dst.map fun d => (d, .ow m), (m, .ow e z rows) :: ([] : List Nat).map (fun q => (q, Ob.no)), rns, [m]⟩ := by
  intro σ' hok a w hs K Q hK
  obtain ⟨F, hF⟩ := hs.f
  have hR := ha.get hF hok.n (fun x hx => ev_ok hok (by simp [ho, Op.operands, Call.operands]; exact .inr (by simpa using hx)))
  have hcall := hc _ F.U w hR
  unfold Oper.wp
  have hex : (execOp a.eval o).run P w = .ok (.enter f (args.toList.map a.eval).toArray) w := by
    unfold execOp
    simp only [ho, resolve, Act.eval, Deferred.ofValue, invoke, Sem.run_bind, Sem.run_pure, Result.andThen_ok]
    have e1 : (#[] ++ Array.map a.eval args ++ #[] : Array Value) = (args.toList.map a.eval).toArray := by
      apply Array.ext'
      simp
    rw [e1]
    exact run_call hf hn hb _ w
  rw [hex, Oper.upon_enter]
  refine Calls.mono hcall ?_
  rintro ex w' ⟨v, U', rfl, h1, h2, xs, g1, g2, g3, g4⟩
  have hfr := hok.f m (by simp)
  have hE : Ext w F.U w' U' := (Up.mk h1.block h2 : Up w F.U w' U').ext
  have hfit := hF.make (m := m) (ob := .ow e z rows) (ks := []) (γv := v) (βv := none) (Sm := fun b => v.ownBlock = some b) (U' := U') (w' := w') (a' := a.put o.dst v) (tw := o.dst.map fun d => (d, .ow m)) hfr hE (fun b hb => h2 b (by have := hs.b.size; omega)) (fun k b _ _ _ hlt => ⟨h1.block b hlt, h2 b hlt⟩) (fun b hb => .inl (g1.lt b hb).1)
    ⟨xs, by simp only [↓reduceIte]; exact Rc.base g1 hs.b.size, g2, g3, fun b => by simp only [↓reduceIte], fun b hb => by simp only [↓reduceIte] at hb; exact g4 b hb⟩
    (hta_put hd hs.s (.ow m) _).1 (fun d v' h => by
      obtain ⟨rfl, h3⟩ := (hta_put hd hs.s (.ow m) v).2 d v' h
      rw [h3]; exact (if_pos rfl).symm) rns [m]
  exact hK _ _ ⟨by rw [put_defers]; exact hs.d, by rw [put_size]; exact hs.s, hs.b.trans (h1.mono hs.b.size), _, hfit⟩
end
end Go.Proofs.Ytobgdemhadlgnaa.Av

namespace Go.Proofs.Ytobgdemhadlgnaa.Av
open Go Go.RowKit
section
variable {P : Program} {N : Nat} {w0 : World} {U0 : Nat → Nat}
theorem op_sliceB {o : Oper} {σ : AS} {t : TypeId} {n : Nat} {parts : Array (Nat × Operand)} (m : Nat) (ho : o.op = .buildSlice t n parts) {e : TypeId} {z : Value} {s b : Nat} (ht : P.underlying t = some (.slice e)) (hi : TI P e z s b) (hz : Nat.beq z.cells.size s = true) (hz0 : Nat.blt 0 s = true) (hz1 : Nat.ble (n * s) 16777216 = true) (h1 : (z.cells.all fun u => u.oneCell') = true)
    {xs : List DV} {rns : List Nat} (hxn : Nat.beq xs.length n = true) (hxl : (xs.all fun x => Nat.beq (dvCells x).length s) = true) (hp : PtsS σ (fun i => some (i * s, s)) (n * s) parts.toList ((xs.zipIdx 0).map fun p => (p.2 * s, p.1)) rns) (hd : dOk o N = true) : OpS P N w0 U0 o σ ⟨o.dst.map fun d => (d, .ow m), (m, .tr e s ((xs.map dvCells).map (·.map .dv))) :: ([] : List Nat).map (fun q => (q, Ob.no)), rns, [m]⟩ := by
  have hzs := Nat.eq_of_beq_eq_true hz
  have hz0' := Nat.le_of_ble_eq_true hz0
  have hz1' := Nat.le_of_ble_eq_true hz1
  have hxn' := Nat.eq_of_beq_eq_true hxn
  have hxl0 : ∀ x ∈ xs, (dvCells x).length = s := fun x hx => Nat.eq_of_beq_eq_true (List.all_eq_true.1 hxl x hx)
  refine op_rowNew (rows := xs.map dvCells) m hd (fun r hr => by
    obtain ⟨x, hx, rfl⟩ := List.mem_map.1 hr
    exact hxl0 x hx) fun σ' hok a w F hF hs => ?_
  obtain ⟨i, g1, g2, g3, g4⟩ := hi
  subst g3
  have hpts := hp.get hF hok.n (fun p hp' => ev_ok hok (by simp only [ho, Op.operands]; simpa using ⟨p.1, by simpa using hp'⟩))
  obtain ⟨zs, hzz⟩ : ∃ zs : Array Value, zs = ((Array.range (n * i.size)).map fun k => z.cells[k % z.cells.size]!) := ⟨_, rfl⟩
  have hzsz : zs.size = n * i.size := by rw [hzz]; simp
  have hone : ∀ u ∈ zs.toList, u.oneCell' = true := by
    intro u hu
    rw [hzz] at hu
    simp only [Array.toList_map, List.mem_map] at hu
    obtain ⟨k, hk, rfl⟩ := hu
    have hkl : k % z.cells.size < z.cells.size := Nat.mod_lt _ (by omega)
    rw [getElem!_pos z.cells (k % z.cells.size) hkl]
    exact Array.all_eq_true_iff_forall_mem.1 h1 _ (Array.getElem_mem hkl)
  have hrc : Rc w F.U zs.toList (zs.toList.map .fl) := ⟨⟨by simp, fun j u x hu hx => by
    rw [List.getElem?_map, hu] at hx
    simp at hx
    subst hx
    exact .fl u⟩, hone⟩
  obtain ⟨cells', e1, e2, e3⟩ := fill_rc hpts zs (zs.toList.map .fl) hzsz hrc
  have hspl := spl_dense (z := i.size) xs 0 [] (zs.toList.map .fl) hxl0 (by simp) (by simp [hzsz, hxn'])
  simp only [List.nil_append] at hspl
  rw [hspl] at e3
  have hlen : (xs.map dvCells).length = n := by simp [hxn']
  have hle : n ≤ n * i.size := Nat.le_mul_of_pos_right n hz0'
  rw [hlen]
  refine ⟨n, cells', ?_, Nat.le_refl _, by unfold maxLen; omega, e2, ?_⟩
  · have hbig : ¬ (n * i.size > 2 ^ 24) := by omega
    have hzv' : ∀ w : World, (zeroValue e).run P w = .ok z w := fun w => by simp [zeroValue, typeInfo, g1, g2]
    have hnr : (newRow e cells').run P w = .ok ⟨w.heap.size, 0, none⟩ (w.alloc (.cells cells' e)) := by simp [newRow, newObj, Sem.run]
    have e1' : Instr.fill (fun j => some (j * i.size, i.size)) zs ((parts.map fun x => match x with | (i, x) => (i, a.eval x)).toList) = some cells' := by
      rw [Array.toList_map]; exact e1
    unfold execOp
    by_cases hn0 : n * i.size = 0
    · have hzs0 : ((Array.range (n * i.size)).map fun k => (#[] : Array Value)[k % (#[] : Array Value).size]!) = zs := by
        apply Array.ext'
        rw [hn0] at hzsz
        have : zs.toList = [] := by simpa using hzsz
        rw [this, hn0]
        simp
      simp only [ho, Instr.buildSlice, Sem.run_bind, run_underlying ht, Result.andThen_ok, run_sizeOf' g1, if_neg hbig, if_pos hn0, Sem.run_pure, hzs0, e1', hnr]
    · simp only [ho, Instr.buildSlice, Sem.run_bind, run_underlying ht, Result.andThen_ok, run_sizeOf' g1, if_neg hbig, if_neg hn0, Sem.run_pure, hzv', ← hzz, e1', hnr]
  · have : cells'.toList.take (n * i.size) = cells'.toList := List.take_of_length_le (by simp; omega)
    rw [this]
    exact e3
theorem freeze_at (w : World) (g off : Nat) (cur : Array Value) (e : TypeId) (h : w.heap[g]? = some (.cells cur e (0, 0))) : (w.freeze ⟨g, off, none⟩ 1).heap[g]? = some (.cells cur e (off, off + 1)) := by
  unfold World.freeze
  simp [Array.getElem?_modify, h]
theorem freeze_other (w : World) (g off k : Nat) (h : k ≠ g) : (w.freeze ⟨g, off, none⟩ 1).heap[k]? = w.heap[k]? := by
  unfold World.freeze
  simp [Array.getElem?_modify, Ne.symm h]
theorem freeze_size (w : World) (g off : Nat) : (w.freeze ⟨g, off, none⟩ 1).heap.size = w.heap.size := by
  unfold World.freeze
  simp
theorem freeze_cell (w : World) (g off : Nat) (cur : Array Value) (e : TypeId) (h : w.heap[g]? = some (.cells cur e (0, 0))) (p : Addr) : (w.freeze ⟨g, off, none⟩ 1).cell? p = w.cell? p := by
  by_cases hp : p.block = g
  · unfold World.cell?
    rw [hp, h, freeze_at w g off cur e h]
  · exact World.cell?_of_block (freeze_other w g off p.block hp)
/-- bytes converted to bytes -/
theorem op_convOwn {o : Oper} {σ : AS} {t e : TypeId} {x : Operand} {m : Nat} {e' : TypeId} {l : List Int} (ho : o.op = .convert t t x) (ht : P.underlying t = some (.slice e)) (he : P.underlying e = some (.int .u8)) (hx : σ.ev x = .ow m) (hm : σ.n m = .tr e' 1 (tD (rI .u8) l)) (hl : 0 < l.length) (hd : dOk o N = true) :
    OpS P N w0 U0 o σ ⟨o.dst.map fun d => (d, .d (.sl 1 (l.map (rI .u8)))), [(m, .no)], [m], []⟩ := by
  intro σ' hok a w hs K Q hK
  obtain ⟨F, hF⟩ := hs.f
  have hv0 : a.eval x = F.γ m := ev_get hok hF (x := x) (by simp [ho, Op.operands]) hx
  have hm' : σ'.n m = .tr e' 1 (tD (rI .u8) l) := by rw [hok.n m (by simp)]; exact hm
  have hlive : (σ'.n m).live = true := by rw [hm']; rfl
  have hob := hF.n m
  rw [hm'] at hob
  obtain ⟨xs, T, g1, g2, g3, g4, g5⟩ := hob
  rw [iRow_flat] at g2
  obtain ⟨hrc, hno⟩ := Tcs.noDv g2
  have hlen : (tD (rI .u8) l).length = l.length := tD_len
  rw [hlen] at g1
  obtain ⟨g1a, g1b⟩ := g1
  rcases g1b with ⟨_, h0⟩ | ⟨g, cap, cur, e1, e2, e3, e4, e5, e6, e7⟩
  · omega
  have hown : (F.γ m).ownBlock = some g := by rw [e1]; rfl
  obtain ⟨gU, _⟩ := g4 g hown
  obtain ⟨w', hw'⟩ : ∃ w', w' = w.freeze ⟨g, cur.size, none⟩ 1 := ⟨_, rfl⟩
  have hrun : (execOp a.eval o).run P w = .ok (.value (F.γ m)) w' := by
    have hsh : w.shape? g = some (e', cur.size) := by simp [World.shape?, e3]
    rw [hw']
    simp [execOp, ho, hv0, e1, convert, run_underlying ht, run_underlying he, markStringish, hsh, Result.andThen]
  have hoth : ∀ k, k ≠ g → w'.heap[k]? = w.heap[k]? := fun k hk => by rw [hw']; exact freeze_other w g _ k hk
  have hcl : ∀ p, w'.cell? p = w.cell? p := fun p => by rw [hw']; exact freeze_cell w g _ cur e' e3 p
  have hsz : w'.heap.size = w.heap.size := by rw [hw']; exact freeze_size w g _
  obtain ⟨U', hU'⟩ : ∃ U' : Nat → Nat, U' = fun b => if b = g then l.length else F.U b := ⟨_, rfl⟩
  have hU1 : U' g = l.length := by rw [hU']; simp
  have hU2 : ∀ b, b ≠ g → U' b = F.U b := fun b hb => by rw [hU']; simp [hb]
  have hE : Ext w F.U w' U' := by
    refine ⟨fun b off u hc ho' => ?_, fun r es c hr hu => ?_⟩
    · have hb : b ≠ g := fun h => by rw [h, gU] at ho'; omega
      exact ⟨(hcl _).trans hc, by rw [hU2 b hb]; exact ho'⟩
    · have hb : r ≠ g := fun h => by rw [h, gU] at hu; omega
      exact ⟨hoth r hb, hU2 r hb⟩
  have hE2 : Ext w U' w' U' := by
    refine ⟨fun b off u hc ho' => ⟨(hcl _).trans hc, ho'⟩, fun r es c hr hu => ?_⟩
    have hb : r ≠ g := fun h => by subst h; rw [e3] at hr; cases hr
    exact ⟨hoth r hb, rfl⟩
  have hE3 : Ext w F.U w U' := by
    refine ⟨fun b off u hc ho' => ?_, fun r es c hr hu => ?_⟩
    · have hb : b ≠ g := fun h => by rw [h, gU] at ho'; omega
      exact ⟨hc, by rw [hU2 b hb]; exact ho'⟩
    · have hb : r ≠ g := fun h => by rw [h, gU] at hu; omega
      exact ⟨rfl, hU2 r hb⟩
  have hrd : Rd w' U' (F.γ m) (.sl 1 (l.map (rI .u8))) := by
    refine Rd.ext hE2 (own_rd (B := w0.heap.size) (e := e') (xs := xs) (by rw [List.length_map]; exact ⟨g1a, .inr ⟨g, cap, cur, e1, e2, e3, e4, e5, e6, e7⟩⟩) (by rw [rI_flat]; exact hrc.ext hE3) (fun r hr => ?_) (fun b hb => ?_))
    · obtain ⟨y, _, rfl⟩ := List.mem_map.1 hr; rfl
    · rw [hown] at hb
      injection hb with hb
      rw [← hb, hU1, List.length_map, Nat.mul_one]
  have hb := hF.big (F' := ⟨F.β, F.γ, U', fun k x => k ≠ m ∧ F.S k x⟩) (w' := w') (a' := a.put o.dst (F.γ m)) (tw := o.dst.map fun d => (d, .d (.sl 1 (l.map (rI .u8))))) (nw := [(m, .no)]) hE
    (fun y hy => hU2 y (fun h => by omega))
    (fun k hk => ⟨rfl, rfl, fun y => ⟨fun h => h.2, fun h => ⟨fun e => by subst e; simp [nwGet] at hk, h⟩⟩⟩)
    (fun k hk => .inl ⟨rfl, rfl⟩)
    (fun k hl' hk y hy hyl => by
      have hne : y ≠ g := fun h => by
        subst h
        have := hF.i k m y hl' hlive hy ((g5 y).2 (.inl hown))
        subst this
        simp [nwGet] at hk
      exact ⟨hoth y hne, hU2 y hne⟩)
    (fun k o hk => by
      unfold nwGet at hk
      cases hb : Nat.beq m k with
      | true => rw [hb] at hk; simp at hk; subst hk; trivial
      | false => rw [hb] at hk; simp [nwGet] at hk)
    (fun k o k' x hk hl => by
      unfold nwGet at hk
      cases hb : Nat.beq m k with
      | true => rw [hb] at hk; simp at hk; subst hk; cases hl
      | false => rw [hb] at hk; simp [nwGet] at hk)
    (fun k o k' o' x hk hl => by
      unfold nwGet at hk
      cases hb : Nat.beq m k with
      | true => rw [hb] at hk; simp at hk; subst hk; cases hl
      | false => rw [hb] at hk; simp [nwGet] at hk)
    (hta_put hd hs.s (.d (.sl 1 (l.map (rI .u8)))) (F.γ m)).1 (fun d v h => by
      obtain ⟨rfl, h3⟩ := (hta_put hd hs.s (.d (.sl 1 (l.map (rI .u8)))) (F.γ m)).2 d v h
      rw [h3]
      exact hrd) [m] []
  unfold Oper.wp
  rw [hrun]
  refine hK _ _ ⟨by rw [put_defers]; exact hs.d, by rw [put_size]; exact hs.s, hs.b.trans ⟨by rw [hw']; rfl, by rw [hw']; rfl, by rw [hw']; rfl, by omega, fun k hk => hoth k (fun h => by omega)⟩, _, hb⟩
end
end Go.Proofs.Ytobgdemhadlgnaa.Av

namespace Go.Proofs.Ytobgdemhadlgnaa.Av
open Go Go.RowKit
theorem rd_len {w : World} {U : Nat → Nat} {v : Value} {z : Nat} {rows : List (List DV)} (h : Rd w U v (.sl z rows)) : rows.length ≤ 9223372036854775807 := by
  cases h with
  | sn A c => simp
  | sl b off n c _ _ u hn hzz hm hcell hrr => omega
theorem opens_len {P : Program} {t : TypeId} {z : Nat} {α : Type} {f : α → List DV} {ok : List α → Prop} (h : Opens P t (rL z f) ok) : Opens P t (rL z f) (fun l => l.length ≤ 9223372036854775807 ∧ ok l) := by
  intro H enc w base spare held fuel cs x hx
  obtain ⟨a, h1, h2⟩ := h H enc w base spare held fuel cs x hx
  refine ⟨a, h1, ?_, h2⟩
  have hl := h1.1.1
  have hc : ∃ u, cs = [u] := by
    match cs, hl with
    | [u], _ => exact ⟨u, rfl⟩
  obtain ⟨u, rfl⟩ := hc
  have := rd_len (h1.1.2 0 u _ rfl rfl)
  simpa using this
end Go.Proofs.Ytobgdemhadlgnaa.Av

namespace Go.Proofs.Ytobgdemhadlgnaa.Av
open Go Go.RowKit
section
variable {P : Program} {N : Nat} {w0 : World} {U0 : Nat → Nat}
structure ARd (P : Program) (N : Nat) (w0 : World) (U0 : Nat → Nat) (c : Code) (R : Exit → AS → Prop) (n : Nat) (σ : AS) : Prop where
  goR : ∀ (rd : Option Nat) (ds : List Deferred) a w, St N w0 U0 σ a w → ∀ Q, (∀ e σ' a' w', R e σ' → St N w0 U0 σ' a' w' → Q e (dfs a' ds) w') → Code.roundsIn (FnR rd) 0 P c Q n (dfs a ds) w
theorem a_rounds (n : Nat) {c : Code} {R : Exit → AS → Prop} {σ : AS} (h : ARd P N w0 U0 c R n σ) : A P N w0 U0 (.loop c) R σ :=
  ⟨fun rd ds a w hs Q hQ => wpIn_loop_rounds n (h.goR rd ds a w hs Q hQ)⟩
theorem ard_succ {n : Nat} {c : Code} {R : Exit → AS → Prop} {σ : AS} (h : A P N w0 U0 c (thenR (ARd P N w0 U0 c R n) R) σ) : ARd P N w0 U0 c R (n + 1) σ := by
  refine ⟨fun rd ds a w hs Q hQ => ?_⟩
  rw [roundsIn_succ]
  refine h.goR rd ds a w hs _ (fun e σ' a' w' hr hs' => ?_)
  cases e with
  | normal => exact ARd.goR hr rd ds a' w' hs' Q hQ
  | _ => exact hQ _ _ _ _ hr hs'
def sLt (s u : ByteArray) : Bool := Op.bytesLess s.toList u.toList
theorem b_slt (t : TypeId) (s u : ByteArray) (x y : Operand) (w : World) : (do eqGuard .lss t x y (.string s) (.string u); binOp .lss t (.string s) (.string u) : Sem Value).run P w = .ok (.bool (sLt s u)) w := by simp [eqGuard, binOp, Op.stringOp, sLt]
theorem b_sgt (t : TypeId) (s u : ByteArray) (x y : Operand) (w : World) : (do eqGuard .gtr t x y (.string s) (.string u); binOp .gtr t (.string s) (.string u) : Sem Value).run P w = .ok (.bool (!(sLt s u || sEq s u))) w := by simp [eqGuard, binOp, Op.stringOp, sLt, ← toList_sEq]
end
end Go.Proofs.Ytobgdemhadlgnaa.Av

namespace Go.Proofs.Ytobgdemhadlgnaa.Av
open Go Go.RowKit
section
variable {P : Program} {N : Nat} {w0 : World} {U0 : Nat → Nat}
theorem imp_btnil {L : List (Nat × AV)} {M : List (Nat × Ob)} (m k0 : Nat) (e : TypeId) (z : Nat) {ty : TypeId} {cs : List OC} (hm : ln M m = .bt ty cs) (hk : cs[k0]? = some (.dv (.fl (.slice none 0 0)))) : Imp N w0 U0 (SS L M) (SS L ((m, .bt ty (cs.set k0 (.ow e z []))) :: M)) := by
  intro a w hs
  obtain ⟨F, hF⟩ := hs.f
  have hob := hF.n m
  rw [show (SS L M).n m = _ from hm] at hob
  obtain ⟨b, vs, T, k1, k2, k3, k4, k5, k6, k7⟩ := hob
  refine ⟨hs.d, hs.s, hs.b, F, hF.u, hF.t, fun k => ?_, fun k k' b h1 h2 h3 h4 => ?_⟩
  · show Rob _ w F k (bif Nat.beq m k then _ else ln M k)
    by_cases e1 : m = k
    · subst e1
      rw [Nat.beq_refl]
      refine ⟨b, vs, T, k1, k2, k3, k4, ⟨by rw [List.length_set]; exact k5.l, fun j u c h1 h2 => ?_, k5.o, k5.d, k5.b⟩, k6, k7⟩
      by_cases ej : k0 = j
      · subst ej
        have hl : k0 < cs.length := by
          rcases Nat.lt_or_ge k0 cs.length with h | h
          · exact h
          · rw [List.getElem?_eq_none h] at hk; cases hk
        rw [List.getElem?_set_self hl] at h2
        injection h2 with h2
        subst h2
        obtain ⟨g1, g2⟩ := k5.c k0 u _ h1 hk
        have hu : u = .slice none 0 0 := by cases g1; rfl
        subst hu
        exact ⟨[], World.ownsRow_nil _ _ _ _, ⟨Rds.nil, fun v hv => by cases hv⟩, (fun r hr => by cases hr), fun b' => ⟨fun h => (g2 b' h).elim, fun h => by cases h⟩, fun b' h => by cases h⟩
      · rw [List.getElem?_set_ne ej] at h2
        exact k5.c j u c h1 h2
    · rw [nbeq e1]; exact hF.n k
  · have g : ∀ j, ((SS L ((m, .bt ty (cs.set k0 (.ow e z []))) :: M)).n j).live = true → ((SS L M).n j).live = true := fun j hj => by
      by_cases e1 : m = j
      · subst e1; show (ln M m).live = true; rw [hm]; rfl
      · have hj' : (bif Nat.beq m j then _ else ln M j : Ob).live = true := hj
        rw [nbeq e1] at hj'; exact hj'
    exact hF.i k k' b (g k h1) (g k' h2) h3 h4
theorem op_takeBt {o : Oper} {σ : AS} {t : TypeId} {x : Operand} (m3 : Nat) (ho : o.op = .load t x) {d : TypeDesc} (hu : P.underlying t = some d) (ha : aggD d = false) {m p : Nat} (hx : (σ.ev x).ptOf = some (m, p)) {ty : TypeId} {cs : List OC} (hm : σ.n m = .bt ty cs) {e2 z2 : Nat} {rows2 : List (List DV)} (hv : cs[p]? = some (.ow e2 z2 rows2)) (hne : Nat.beq m3 m = false) (hd : dOk o N = true) :
    OpS P N w0 U0 o σ ⟨o.dst.map fun d => (d, .ow m3), [(m3, .tr e2 z2 (rows2.map (·.map .dv))), (m, .bt ty (cs.take p ++ [.un] ++ cs.drop (p + 1)))], [m], [m3]⟩ := by
  intro σ' hok a w hs K Q hK
  obtain ⟨F, hF⟩ := hs.f
  obtain ⟨g', h1, h2⟩ := pt_get hok hF (x := x) (by simp [ho, Op.operands]) hx
  have hm' : σ'.n m = .bt ty cs := by rw [hok.n m (by simp)]; exact hm
  have hjl := (List.getElem?_eq_some_iff.1 hv).1
  obtain ⟨vs, T, kB, kU, k3, k8, kT, kS⟩ := bt_get hF hm' h1
  have hk : p < vs.toList.length := by rw [k8.l]; exact hjl
  obtain ⟨u, hu'⟩ : ∃ u, vs.toList[p]? = some u := ⟨_, List.getElem?_eq_getElem hk⟩
  have hc : w.cell? ⟨g', p, none⟩ = some u := by rw [cell_of_row w g' p vs ty (0, 0) k3]; simpa using hu'
  obtain ⟨ys, y1, y2, y3, y4, y5⟩ := k8.c _ u _ hu' hv
  have hfr : fresh σ' m3 := hok.f m3 (by simp)
  have hmm : m ≠ m3 := fun h => by rw [h, Nat.beq_refl] at hne; cases hne
  have hlive : (σ'.n m).live = true := by rw [hm']; rfl
  have hrun : (execOp a.eval o).run P w = .ok (.value u) w := by simp [execOp, ho, h2, Instr.loadAt, Instr.sureAddr, run_load_one hu ha hc]
  obtain ⟨F', hF'⟩ : ∃ F' : Fr, F' = ⟨fun k => if k = m3 then none else F.β k, fun k => if k = m3 then u else F.γ k, F.U, fun k b => if k = m3 then T p b else if k = m then (b = g' ∨ ∃ q, q ≠ p ∧ T q b) else F.S k b⟩ := ⟨_, rfl⟩
  have hβ3 : F'.γ m3 = u := by rw [hF']; exact if_pos rfl
  have hβm : F'.β m = some g' := by rw [hF']; exact (if_neg hmm).trans h1
  have hU : F'.U = F.U := by rw [hF']
  have hS3 : ∀ b, F'.S m3 b ↔ T p b := fun b => by rw [hF']; show (if m3 = m3 then _ else _) ↔ _; rw [if_pos rfl]
  have hSm : ∀ b, F'.S m b ↔ (b = g' ∨ ∃ q, q ≠ p ∧ T q b) := fun b => by rw [hF']; show (if m = m3 then _ else if m = m then _ else _) ↔ _; rw [if_neg hmm, if_pos rfl]
  have hSk : ∀ k, k ≠ m3 → k ≠ m → ∀ b, F'.S k b ↔ F.S k b := fun k a1 a2 b => by rw [hF']; show (if k = m3 then _ else if k = m then _ else _) ↔ _; rw [if_neg a1, if_neg a2]
  have hnw : ∀ k, nwGet [(m3, Ob.tr e2 z2 (rows2.map (·.map OC.dv))), (m, Ob.bt ty (cs.take p ++ [OC.un] ++ cs.drop (p + 1)))] k = if k = m3 then some (.tr e2 z2 (rows2.map (·.map OC.dv))) else if k = m then some (.bt ty (cs.take p ++ [OC.un] ++ cs.drop (p + 1))) else none := by
    intro k
    unfold nwGet
    by_cases a1 : k = m3
    · subst a1; rw [Nat.beq_refl, if_pos rfl]; rfl
    · rw [nbeq (Ne.symm a1), if_neg a1]
      unfold nwGet
      by_cases a2 : k = m
      · subst a2; rw [Nat.beq_refl, if_pos rfl]; rfl
      · rw [nbeq (Ne.symm a2), if_neg a2]; rfl
  have hsub : ∀ b, T p b → F.S m b := fun b hb => (kS b).2 (.inr ⟨_, hb⟩)
  have hb := hF.big (F' := F') (w' := w) (tw := o.dst.map fun d => (d, .ow m3)) (nw := [(m3, .tr e2 z2 (rows2.map (·.map .dv))), (m, .bt ty (cs.take p ++ [.un] ++ cs.drop (p + 1)))]) (by rw [hU]; exact Ext.rfl) (fun b _ => by rw [hU])
    (fun k hk => by
      rw [hnw] at hk
      have a1 : k ≠ m3 := fun h => by rw [if_pos h] at hk; cases hk
      rw [if_neg a1] at hk
      have a2 : k ≠ m := fun h => by rw [if_pos h] at hk; cases hk
      exact ⟨by rw [hF']; exact if_neg a1, by rw [hF']; exact if_neg a1, hSk k a1 a2⟩)
    (fun k hk => by
      rw [hnw] at hk
      by_cases a1 : k = m3
      · right; rw [a1]; exact hfr
      · left; exact ⟨by rw [hF']; exact if_neg a1, by rw [hF']; exact if_neg a1⟩)
    (fun k hl hk b hb hlt => ⟨rfl, by rw [hU]⟩)
    (fun k ob hk => by
      rw [hnw] at hk
      by_cases a1 : k = m3
      · rw [if_pos a1] at hk
        injection hk with hk
        subst hk a1
        refine ⟨ys, fun _ _ => False, by rw [hβ3, List.length_map]; exact y1, by rw [flat_map_dv, hU]; exact Tcs.ofRc y2, fun r' hr' => ?_, fun b hb => ⟨?_, fun _ => id⟩, fun b => ?_⟩
        · obtain ⟨r'', h3, rfl⟩ := List.mem_map.1 hr'
          simpa using y3 r'' h3
        · rw [hU]; rw [hβ3] at hb; exact y5 b hb
        · rw [hS3, hβ3, y4 b]
          exact ⟨.inl, fun h => h.elim id (fun ⟨_, h⟩ => h.elim)⟩
      · rw [if_neg a1] at hk
        by_cases a2 : k = m
        · rw [if_pos a2] at hk
          injection hk with hk
          subst hk a2
          refine ⟨g', vs, fun q b => q ≠ p ∧ T q b, hβm, kB, by rw [hU]; exact kU, k3, ?_, fun q h => kT q h.2, fun b => by rw [hSm]⟩
          rw [hU]
          have hcl := k8.l
          have hcs : ∀ q, (cs.take p ++ [OC.un] ++ cs.drop (p + 1))[q]? = if q = p then some .un else cs[q]? := by
            intro q
            rcases Nat.lt_trichotomy q p with hq | hq | hq
            · rw [if_neg (by omega), List.append_assoc, List.getElem?_append_left (by simp; omega), List.getElem?_take_of_lt hq]
            · subst hq
              rw [if_pos rfl, List.append_assoc, List.getElem?_append_right (by simp; omega)]
              simp
              rw [Nat.min_eq_left (by omega)]
              simp
            · rw [if_neg (by omega), List.getElem?_append_right (by simp; omega), List.getElem?_drop]
              congr 1
              simp
              omega
          refine ⟨by have := hcl; simp only [List.length_append, List.length_take, List.length_drop, List.length_singleton]; omega, fun q v c hv' hc' => ?_, k8.o, fun q q' b h1 h2 => k8.d q q' b h1.2 h2.2, fun q b h1 => k8.b q b h1.2⟩
          rw [hcs] at hc'
          by_cases hq : q = p
          · rw [if_pos hq] at hc'
            injection hc' with hc'
            subst hc'
            exact fun b hb => hb.1 hq
          · rw [if_neg hq] at hc'
            have := k8.c q v c hv' hc'
            have e1 : (fun b => q ≠ p ∧ T q b) = T q := by funext b; exact propext ⟨fun h => h.2, fun h => ⟨hq, h⟩⟩
            rw [e1]
            exact this
        · rw [if_neg a2] at hk; cases hk)
    (fun k ob k' b hk hl hk' hl' hb hb' => by
      have hS : F.S m b := by
        rw [hnw] at hk
        by_cases a1 : k = m3
        · subst a1; exact hsub b ((hS3 b).1 hb)
        · rw [if_neg a1] at hk
          by_cases a2 : k = m
          · subst a2
            rcases (hSm b).1 hb with h | ⟨q, _, h⟩
            · exact (kS b).2 (.inl h)
            · exact (kS b).2 (.inr ⟨q, h⟩)
          · rw [if_neg a2] at hk; cases hk
      have := hF.i m k' b hlive hl' hS hb'
      rw [hnw] at hk'
      subst this
      rw [if_neg hmm, if_pos rfl] at hk'
      cases hk')
    (fun k ob k' ob' b hk hl hk' hl' hb hb' => by
      rw [hnw] at hk hk'
      have no : ∀ b, T p b → (b = g' ∨ ∃ q, q ≠ p ∧ T q b) → False := fun b h3 h4 => by
        rcases h4 with h4 | ⟨q, h4, h5⟩
        · subst h4; exact kT _ h3
        · exact h4 (k8.d q _ b h5 h3)
      by_cases a1 : k = m3
      · by_cases a1' : k' = m3
        · rw [a1, a1']
        · rw [if_neg a1'] at hk'
          by_cases a2' : k' = m
          · subst a1 a2'; exact (no b ((hS3 b).1 hb) ((hSm b).1 hb')).elim
          · rw [if_neg a2'] at hk'; cases hk'
      · rw [if_neg a1] at hk
        by_cases a2 : k = m
        · by_cases a1' : k' = m3
          · subst a2 a1'; exact (no b ((hS3 b).1 hb') ((hSm b).1 hb)).elim
          · rw [if_neg a1'] at hk'
            by_cases a2' : k' = m
            · rw [a2, a2']
            · rw [if_neg a2'] at hk'; cases hk'
        · rw [if_neg a2] at hk; cases hk)
    (a' := a.put o.dst u) (hta_put hd hs.s (.ow m3) u).1 (fun d v h => by
      obtain ⟨rfl, h3⟩ := (hta_put hd hs.s (.ow m3) u).2 d v h
      rw [h3]
      exact hβ3.symm) [m] [m3]
  unfold Oper.wp
  rw [hrun]
  exact hK _ _ ⟨by rw [put_defers]; exact hs.d, by rw [put_size]; exact hs.s, hs.b, _, hb⟩
/-- a struct whose cells own rows is handed on as data -/
theorem imp_leakBt {L : List (Nat × AV)} {M : List (Nat × Ob)} (m : Nat) {ty : TypeId} {cs : List OC} {ds : List DV} (hm : ln M m = .bt ty cs) (hok : (cs.all OC.ok) = true) (he : cs.map OC.rd = ds) : Imp N w0 U0 (SS L M) (SS L ((m, .bx ty ds) :: M)) := by
  subst he
  intro a w hs
  obtain ⟨F, hF⟩ := hs.f
  have hob := hF.n m
  rw [show (SS L M).n m = _ from hm] at hob
  obtain ⟨b0, vs, T, k1, k2, k3, k4, k5, k6, k7⟩ := hob
  have hlive : ((SS L M).n m).live = true := by rw [show (SS L M).n m = _ from hm]; rfl
  obtain ⟨U', hU'⟩ : ∃ U' : Nat → Nat, U' = leakU F.U cs T := ⟨_, rfl⟩
  have hUT : ∀ k b c, T k b → cs[k]? = some c → U' b = c.len := fun k b c hk hc => by rw [hU']; exact leakU_T k5.d hk hc
  have hUn : ∀ b, ¬ (∃ k, T k b) → U' b = F.U b := fun b hb => by rw [hU']; exact leakU_no hb
  have hU0 : ∀ b, (∃ k, T k b) → F.U b = 0 := fun b ⟨k, h⟩ => by
    have hk := k5.b k b h
    have hl := k5.l
    have := k5.c k _ _ (List.getElem?_eq_getElem hk) (List.getElem?_eq_getElem (by omega))
    generalize cs[k]'(by omega) = c at this
    cases c with
    | un => exact absurd h (this b)
    | dv x => exact absurd h (this.2 b)
    | ow e2 z2 rows2 => obtain ⟨_, _, _, _, q4, q5⟩ := this; exact q5 b ((q4 b).1 h)
  have hE : Ext w F.U w U' := ⟨fun b o u hc ho' => ⟨hc, by
    by_cases hb : ∃ k, T k b
    · rw [hU0 b hb] at ho'; omega
    · rw [hUn b hb]; exact ho'⟩, fun r es c hr hu => ⟨rfl, hUn r (fun hb => by rw [hU0 r hb] at hu; omega)⟩⟩
  have hrc := k5.leak (fun c hc => List.all_eq_true.1 hok c hc) hE hUT
  have hb := hF.big (F' := ⟨F.β, F.γ, U', fun k x => if k = m then x = b0 else F.S k x⟩) (w' := w) (tw := none) (nw := [(m, .bx ty (cs.map OC.rd))]) hE
    (fun x hx => hUn x (fun h => by have := ((hF.n m).lt hlive ((k7 x).2 (.inr h))).1; omega))
    (fun k hk => ⟨rfl, rfl, fun x => by
      have hne : k ≠ m := fun e => by subst e; simp [nwGet] at hk
      show (if k = m then _ else _) ↔ _
      rw [if_neg hne]⟩)
    (fun k hk => .inl ⟨rfl, rfl⟩)
    (fun k hl hk x hx hxl => ⟨rfl, hUn x (fun h => by
      have := hF.i k m x hl hlive hx ((k7 x).2 (.inr h))
      subst this
      simp [nwGet] at hk)⟩)
    (fun k o hk => by
      rw [nw_one] at hk
      by_cases e : k = m
      · rw [if_pos e] at hk; injection hk with hk; subst hk e
        exact ⟨b0, vs, k1, k2, (hUn b0 (fun ⟨q, h⟩ => k6 q h)).trans k3, k4, hrc, fun b' => by show (if k = k then _ else _) ↔ _; rw [if_pos rfl]⟩
      · rw [if_neg e] at hk; cases hk)
    (fun k o k' x hk hl hk' hl' hx hx' => by
      rw [nw_one] at hk hk'
      by_cases e : k = m
      · have hx2 : (if k = m then x = b0 else F.S k x) := hx
        rw [if_pos e] at hx2
        subst hx2
        have := hF.i m k' x hlive hl' ((k7 x).2 (.inl rfl)) hx'
        rw [if_pos this.symm] at hk'; cases hk'
      · rw [if_neg e] at hk; cases hk)
    (fun k o k' o' x hk hl hk' hl' _ _ => by
      rw [nw_one] at hk hk'
      by_cases e : k = m
      · by_cases e' : k' = m
        · rw [e, e']
        · rw [if_neg e'] at hk'; cases hk'
      · rw [if_neg e] at hk; cases hk)
    (a' := a) (fun t' => rfl) (fun d v h => by cases h) [] []
  rw [ap_ss] at hb
  exact ⟨hs.d, hs.s, hs.b, _, hb⟩
end
end Go.Proofs.Ytobgdemhadlgnaa.Av

namespace Go.Proofs.Ytobgdemhadlgnaa.Av
open Go Go.RowKit ChangeMaps
section
variable {P : Program} {N : Nat} {w0 : World} {U0 : Nat → Nat}
theorem op_mapSameS {o : Oper} {σ : AS} {t : TypeId} {x y z : Operand} (ho : o.op = .mapUpdate t x y z) (hdn : o.dst = none) {kt et : TypeId} (ht : P.underlying t = some (.map kt et)) {td : TypeDesc} (hk : P.underlying kt = some td) (htd : keyTd td = true)
    {m : Nat} {xs : List (Value × DV)} (hx : σ.ev x = .ow m) (hm : σ.n m = .mp xs) {p : ByteArray} (hy : σ.ev y = .d (.fl (.string p))) {v : Value} (hr : mfind td (.string p) xs = some (some (.fl v))) (hz : σ.ev z = .d (.fl v)) :
    OpS P N w0 U0 o σ ⟨none, [(m, .mp xs)], [m], []⟩ := by
  intro σ' hok a w hs K Q hK
  obtain ⟨F, hF⟩ := hs.f
  have hv : a.eval x = F.γ m := ev_get hok hF (x := x) (by simp [ho, Op.operands]) hx
  have hkv : a.eval y = .string p := flat_val (ev_get hok hF (x := y) (by simp [ho, Op.operands]) hy)
  have hvz : a.eval z = v := flat_val (ev_get hok hF (x := z) (by simp [ho, Op.operands]) hz)
  have hm' : σ'.n m = .mp xs := by rw [hok.n m (by simp)]; exact hm
  have hn := hF.n m
  rw [hm'] at hn
  obtain ⟨b, es, c, h1, h2, h3, h4, h5, h6, hst⟩ := hn
  have hlt : b < w.heap.size := (Array.getElem?_eq_some_iff.1 h4).1
  obtain ⟨_, g2⟩ := find_ents es.toList xs 0 h5 _ hr
  obtain ⟨j, u, g3, g4⟩ := g2 _ rfl
  have hu : u = v := by cases g4; rfl
  subst hu
  obtain ⟨e, _, g5, g6, g7⟩ := find_at es.toList 0 g3
  have g5 : es[j]? = some e := by simpa using g5
  have g8 : (Value.string p) = e.key := sameNow_eq g7
  have hmod : (es.modify j fun e => { e with key := .string p, val := u }) = es := by
    apply Array.ext
    · simp
    · intro i h1 h2
      rw [Array.getElem_modify]
      split
      · rename_i hji
        subst hji
        have g9 : es[j] = e := by have := Array.getElem?_eq_getElem (show j < es.size by simpa using h1); rw [this] at g5; injection g5
        rw [g9]
        cases e
        simp at g6 g8
        subst g6 g8
        rfl
      · rfl
  have hrun : (execOp a.eval o).run P w = .ok .skip (setBlock w b (.map es c)) := by
    simp [execOp, ho, hv, h1, hkv, hvz, Instr.mapUpdate, run_underlying ht, MapKept.run_getObj_map h4, run_checkKey' hk htd, run_findKey' hk g3, g5, ← g8, Instr.keyThatStays, Instr.sameBits, (MapKept.bytes_beq p p).2 rfl, hmod, MapKept.run_setObj_map _ h4, Result.andThen, setBlock]
  have hE := ext_setBlock (w := w) (Obj.map es c) h3
  have hfit := hF.setobj (a' := a) (m := m) (b := b) (by rw [hm']; rfl) h6 h3 (obj := .map es c) (ob := .mp xs) ⟨b, _, _, h1, h2, h3, setBlock_same _ hlt, h5.ext hE, h6, hst⟩
    (tw := none) (fun _ => rfl) (fun _ _ h => by cases h) [m]
  unfold Oper.wp
  rw [hrun]
  have : a.put o.dst undef = a := by rw [hdn]; rfl
  unfold Oper.upon
  simp only [this]
  exact hK _ _ ⟨hs.d, hs.s, below_setBlock hs.b h2 _, _, hfit⟩
end
end Go.Proofs.Ytobgdemhadlgnaa.Av

namespace Go.Proofs.Ytobgdemhadlgnaa.Av
open Go Go.RowKit Go.ChangeMaps
/-- the entries with k's value d -/
def mput (td : TypeDesc) (k : Value) (d : DV) : List (Value × DV) → List (Value × DV)
  | [] => [(k, d)]
  | x :: xs => match Instr.sameNow td k x.1 with
    | some true => (k, d) :: xs
    | _ => x :: mput td k d xs
theorem same_key {td : TypeDesc} {k v : Value} (h : Instr.sameNow td k v = some true) : k = v := sameNow_eq h
theorem ents_put {w : World} {U : Nat → Nat} {td : TypeDesc} {k u : Value} {d : DV} (hd : Rd w U u d) : ∀ (es : List MapEntry) (xs : List (Value × DV)) (i : Nat) {j : Nat} {v : Value}, Ents w U es xs → Instr.findNow td k es i = some (some (j, v)) →
    i ≤ j ∧ Ents w U (es.modify (j - i) fun e => { e with key := k, val := u }) (mput td k d xs)
  | [], xs, i, j, v, h, hf => by simp [Instr.findNow] at hf
  | e :: es, [], i, j, v, h, hf => by have := h.1; simp at this
  | e :: es, x :: xs, i, j, v, h, hf => by
    obtain ⟨h1, h2⟩ := h.2 0 e x rfl rfl
    have ht : Ents w U es xs := ⟨by have := h.1; simpa using this, fun j e x h3 h4 => h.2 (j + 1) e x (by simpa using h3) (by simpa using h4)⟩
    unfold Instr.findNow at hf
    rw [h1] at hf
    unfold mput
    cases hs : Instr.sameNow td k x.1 with
    | none => rw [hs] at hf; cases hf
    | some b =>
      rw [hs] at hf
      cases b with
      | true =>
        simp at hf
        obtain ⟨rfl, rfl⟩ := hf
        refine ⟨Nat.le_refl _, ?_⟩
        rw [Nat.sub_self]
        refine ⟨by simp [ht.1], fun q e' x' hq hx => ?_⟩
        cases q with
        | zero => simp at hq hx; subst hq hx; exact ⟨rfl, hd⟩
        | succ q => simp at hq hx; exact ht.2 q e' x' hq hx
      | false =>
        simp only at hf
        obtain ⟨g1, g2⟩ := ents_put hd es xs (i + 1) ht hf
        refine ⟨by omega, ?_⟩
        rw [show j - i = (j - (i + 1)) + 1 by omega]
        refine ⟨by simpa using g2.1, fun q e' x' hq hx => ?_⟩
        cases q with
        | zero => simp at hq hx; subst hq hx; exact ⟨h1, h2⟩
        | succ q => simp at hq hx; exact g2.2 q e' x' hq hx
section
variable {P : Program} {N : Nat} {w0 : World} {U0 : Nat → Nat}
/-- 'm[k] = v' at a key of numbers or of text that is there -/
theorem op_mapSet {o : Oper} {σ : AS} {t : TypeId} {x y z : Operand} (ho : o.op = .mapUpdate t x y z) (hdn : o.dst = none) {kt et : TypeId} (ht : P.underlying t = some (.map kt et)) {td : TypeDesc} (hk : P.underlying kt = some td) (htd : keyTd td = true)
    {m : Nat} {xs : List (Value × DV)} (hx : σ.ev x = .ow m) (hm : σ.n m = .mp xs) {k : Value} (hy : σ.ev y = .d (.fl k)) {d0 : DV} (hr : mfind td k xs = some (some d0)) {d : DV} (hz : σ.ev z = .d d)
    (hstay : ∀ w : World, (Instr.keyThatStays k k).run P w = .ok k w) :
    OpS P N w0 U0 o σ ⟨none, [(m, .mp (mput td k d xs))], [m], []⟩ := by
  intro σ' hok a w hs K Q hK
  obtain ⟨F, hF⟩ := hs.f
  have hv : a.eval x = F.γ m := ev_get hok hF (x := x) (by simp [ho, Op.operands]) hx
  have hkv : a.eval y = k := flat_val (ev_get hok hF (x := y) (by simp [ho, Op.operands]) hy)
  have hvz : Rd w F.U (a.eval z) d := ev_get hok hF (x := z) (by simp [ho, Op.operands]) hz
  have hm' : σ'.n m = .mp xs := by rw [hok.n m (by simp)]; exact hm
  have hn := hF.n m
  rw [hm'] at hn
  obtain ⟨b, es, c, h1, h2, h3, h4, h5, h6, hst⟩ := hn
  have hlt : b < w.heap.size := (Array.getElem?_eq_some_iff.1 h4).1
  obtain ⟨_, g2⟩ := find_ents es.toList xs 0 h5 _ hr
  obtain ⟨j, u, g3, g4⟩ := g2 _ rfl
  obtain ⟨e, _, g5, g6, g7⟩ := find_at es.toList 0 g3
  have g5 : es[j]? = some e := by simpa using g5
  have g8 : k = e.key := same_key g7
  obtain ⟨_, hput⟩ := ents_put (k := k) hvz es.toList xs 0 h5 g3
  rw [Nat.sub_zero] at hput
  have hrun : (execOp a.eval o).run P w = .ok .skip (setBlock w b (.map (es.modify j fun e => { e with key := k, val := a.eval z }) c)) := by
    simp [execOp, ho, hv, h1, hkv, Instr.mapUpdate, run_underlying ht, MapKept.run_getObj_map h4, run_checkKey' hk htd, run_findKey' hk g3, g5, ← g8, hstay, MapKept.run_setObj_map _ h4, Result.andThen, setBlock]
  have hE := ext_setBlock (w := w) (Obj.map (es.modify j fun e => { e with key := k, val := a.eval z }) c) h3
  have hents : Ents (setBlock w b (.map (es.modify j fun e => { e with key := k, val := a.eval z }) c)) F.U (es.modify j fun e => { e with key := k, val := a.eval z }).toList (mput td k d xs) := by
    rw [Array.toList_modify]
    exact hput.ext hE
  have hfit := hF.setobj (a' := a) (m := m) (b := b) (by rw [hm']; rfl) h6 h3 (obj := .map (es.modify j fun e => { e with key := k, val := a.eval z }) c) (ob := .mp (mput td k d xs)) ⟨b, _, _, h1, h2, h3, setBlock_same _ hlt, hents, h6, MapKept.stamped_modify hst j _ (fun _ _ => rfl) (fun e' _ he' => by rw [he'] at g5; cases g5; exact g8)⟩
    (tw := none) (fun _ => rfl) (fun _ _ h => by cases h) [m]
  unfold Oper.wp
  rw [hrun]
  have : a.put o.dst undef = a := by rw [hdn]; rfl
  unfold Oper.upon
  simp only [this]
  exact hK _ _ ⟨hs.d, hs.s, below_setBlock hs.b h2 _, _, hfit⟩
theorem stays_int (q : IntKind) (n : Int) (w : World) : (Instr.keyThatStays (.int q n) (.int q n)).run P w = .ok (.int q n) w := by
  simp [Instr.keyThatStays, Instr.sameBits, Result.andThen]
theorem stays_str (s : ByteArray) (w : World) : (Instr.keyThatStays (.string s) (.string s)).run P w = .ok (.string s) w := by
  simp [Instr.keyThatStays, Instr.sameBits, (MapKept.bytes_beq s s).2 rfl, Result.andThen]
end
end Go.Proofs.Ytobgdemhadlgnaa.Av
