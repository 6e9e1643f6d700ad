/- An evaluator for code whose data are all known. Conditions: as each theorem names them. -/
import Derived.Test.YtobgdemhadlgnaaEvB
import Derived.Lib.Builder
import Derived.Lib.UnsafeStr
set_option linter.unusedSimpArgs false
set_option linter.unusedVariables false
namespace Go.Proofs.Ytobgdemhadlgnaa.Ev
open Go Go.RowKit
section
variable {P : Program} {N : Nat} {w0 : World} {D : Dom}
/-- a new object that is no row -/
theorem opS_obj {o : Oper} {σ : AS} {k : Nat} {ob : XO} {x : XV} {rn : List Nat} (hd : dOk o N = true) (hl : ob.live = true)
    (h : ∀ σ', (Res.eff { x := x, nw := [(k, ob)], rn := rn, fr := [k] } o).ok o σ σ' → ∀ a w β, Fits w0 D σ' a w β → ∃ (obj : Obj) (v : Value), (execOp a.eval o).run P w = .ok (.value v) (w.alloc obj) ∧ (∀ β', Sub β β' → β' k = some (w.heap.size, 0) → Ro β' (w.alloc obj) k ob ∧ Rx β' x v)) :
    OpS P N w0 D o σ (Res.eff { x := x, nw := [(k, ob)], rn := rn, fr := [k] } o) := by
  intro σ' hok a w hs K Q hK
  obtain ⟨β, hF⟩ := hs.f
  obtain ⟨obj, v, hr, hv⟩ := h σ' hok a w β hF
  first | refine owp_v (hr) ?_ | refine owp_s (hr) ?_
  exact hK _ _ (hs.new (w' := w.alloc obj) (obj := obj) (z := 0) (ob := ob) hF (hok.f k (by simp [Res.eff])) hl rfl rfl rfl rfl (fun β' hβ hk => (hv β' hβ hk).1) hd (fun β' hβ hk => (hv β' hβ hk).2) rn)
def xMakeMap (P : Program) (k : Nat) (t : TypeId) (r : Option Value) : Option Res :=
  match r, P.underlying t with
  | none, _ => some { x := .mr k, nw := [(k, .mp [] 0)], fr := [k] }
  | some (.int _ _), some (.map _ _) => some { x := .mr k, nw := [(k, .mp [] 0)], fr := [k] }
  | _, _ => none
theorem makeMap_ok {o : Oper} {σ : AS} {t : TypeId} {k : Nat} {y : Option Operand} (ho : o.op = .makeMap t y) {v : Option Value} (hy : fevO σ.ev y = some v) {r : Res} (h : xMakeMap P k t v = some r) (hd : dOk o N = true) : OpS P N w0 D o σ (r.eff o) := by
  have my : ∀ z, y = some z → z ∈ o.op.operands := fun z e => by simp [ho, Op.operands, e]
  unfold xMakeMap at h
  split at h
  · injection h with h; subst h
    refine opS_obj hd rfl fun σ' hok a w β hF => ⟨.map #[] 0, .map (some w.heap.size), ?_, fun β' hβ hk => ⟨⟨_, [], hk, Go.heap_alloc_new w _, rfl⟩, rx_m.2 ⟨_, hk, rfl⟩⟩⟩
    have e := fevO_get hok hF hy my
    simp [execOp, ho, e, Instr.makeMap, newObj, Sem.run]
  · rename_i k0 i0 e1 e2 hu
    injection h with h; subst h
    refine opS_obj hd rfl fun σ' hok a w β hF => ⟨.map #[] 0, .map (some w.heap.size), ?_, fun β' hβ hk => ⟨⟨_, [], hk, Go.heap_alloc_new w _, rfl⟩, rx_m.2 ⟨_, hk, rfl⟩⟩⟩
    have e := fevO_get hok hF hy my
    simp [execOp, ho, e, Instr.makeMap, run_underlying hu, asInt, asIntOf, newObj, Sem.run]
  · cases h
/-! ### looking for a key -/
def nowX (td : TypeDesc) (k : Value) : List (Value × XV × Nat) → Nat → Option (Option (Nat × XV))
  | [], _ => some none
  | c :: r, i => match Instr.sameNow td k c.1 with
    | some true => some (some (i, c.2.1))
    | some false => nowX td k r (i + 1)
    | none => none
def askX (P : Program) (kt : TypeId) (k : Value) : List (Value × XV × Nat) → Nat → Option (Option (Nat × XV))
  | [], _ => some none
  | c :: r, i => match peel P 4000 (Op.equal kt k c.1) with
    | some true => some (some (i, c.2.1))
    | some false => askX P kt k r (i + 1)
    | none => none
def findX (P : Program) (kt : TypeId) (td : TypeDesc) (k : Value) (es : List (Value × XV × Nat)) : Option (Option (Nat × XV)) :=
  match nowX td k es 0 with
  | some r => some r
  | none => askX P kt k es 0
/-- what was found -/
def FR (β : Nat → Option (Nat × Nat)) (es : List MapEntry) (i0 : Nat) (r : Option (Nat × XV)) (q : Option (Nat × Value)) : Prop :=
  match r, q with
  | none, none => True
  | some (i, c), some (j, v) => i = j ∧ Rx β c v ∧ i0 ≤ i ∧ ∃ e, es[i - i0]? = some e ∧ e.val = v
  | _, _ => False
theorem FR.step {β : Nat → Option (Nat × Nat)} {e : MapEntry} {es : List MapEntry} {i : Nat} {r : Option (Nat × XV)} {q : Option (Nat × Value)} (h : FR β es (i + 1) r q) : FR β (e :: es) i r q := by
  unfold FR at h ⊢
  split at h
  · trivial
  · rename_i j c j' v
    obtain ⟨h1, h2, h3, e', h4, h5⟩ := h
    refine ⟨h1, h2, by omega, e', ?_, h5⟩
    rw [show j - i = (j - (i + 1)) + 1 by omega]
    simpa using h4
  · exact h.elim
theorem now_ok {β : Nat → Option (Nat × Nat)} {td : TypeDesc} {k : Value} : ∀ {cs : List (Value × XV × Nat)} {es : List MapEntry} {i : Nat}, REs β cs es →
    (nowX td k cs i = none → Instr.findNow td k es i = none) ∧ (∀ r, nowX td k cs i = some r → ∃ q, Instr.findNow td k es i = some q ∧ FR β es i r q)
  | [], es, i, h => by
    have h' : es = [] := h
    subst h'
    exact ⟨fun h => (by cases h), fun r hr => (by have hr' : some none = some r := hr; injection hr' with hr'; subst hr'; exact ⟨none, rfl, trivial⟩)⟩
  | c :: cs, es, i, h => by
    obtain ⟨e, r, rfl, h2, h3, h4, h5⟩ := h
    obtain ⟨i1, i2⟩ := now_ok (td := td) (k := k) (i := i + 1) h5
    unfold nowX Instr.findNow
    rw [h2]
    cases hs : Instr.sameNow td k c.1 with
    | none => exact ⟨fun _ => rfl, fun r hr => (by cases hr)⟩
    | some b =>
      cases b with
      | true =>
        refine ⟨fun h => (by cases h), fun q hq => ?_⟩
        simp only at hq
        injection hq with hq
        subst hq
        exact ⟨_, rfl, rfl, h3, Nat.le_refl _, e, by simp, rfl⟩
      | false =>
        refine ⟨i1, fun q hq => ?_⟩
        obtain ⟨q', g1, g2⟩ := i2 q hq
        exact ⟨q', g1, g2.step⟩
theorem ask_ok {β : Nat → Option (Nat × Nat)} {kt : TypeId} {k : Value} {w : World} : ∀ {cs : List (Value × XV × Nat)} {es : List MapEntry} {i : Nat}, REs β cs es → ∀ r, askX P kt k cs i = some r → ∃ q, (Instr.findAsking kt k es i).run P w = .ok q w ∧ FR β es i r q
  | [], es, i, h, r, hr => by
    have h' : es = [] := h
    subst h'
    have hr' : some none = some r := hr
    injection hr' with hr'; subst hr'
    exact ⟨none, rfl, trivial⟩
  | c :: cs, es, i, h, r, hr => by
    obtain ⟨e, rs, rfl, h2, h3, h4, h5⟩ := h
    unfold askX at hr
    unfold Instr.findAsking
    rw [← h2] at hr
    cases hp : peel P 4000 (Op.equal kt k e.key) with
    | none => rw [hp] at hr; cases hr
    | some b =>
      rw [hp] at hr
      have hrun := peel_ok _ _ _ hp w
      cases b with
      | true =>
        simp only at hr
        injection hr with hr
        subst hr
        refine ⟨some (i, e.val), ?_, rfl, h3, Nat.le_refl _, e, by simp, rfl⟩
        rw [Sem.run_bind, hrun]
        rfl
      | false =>
        obtain ⟨q, g1, g2⟩ := ask_ok (w := w) (i := i + 1) h5 r hr
        refine ⟨q, ?_, g2.step⟩
        rw [Sem.run_bind, hrun]
        simpa using g1
theorem find_ok {β : Nat → Option (Nat × Nat)} {kt : TypeId} {td : TypeDesc} (hu : P.underlying kt = some td) {k : Value} {cs : List (Value × XV × Nat)} {es : List MapEntry} (h : REs β cs es) {r : Option (Nat × XV)} (hr : findX P kt td k cs = some r) (w : World) : ∃ q, (Instr.findKey kt k es).run P w = .ok q w ∧ FR β es 0 r q := by
  unfold findX at hr
  obtain ⟨h1, h2⟩ := now_ok (td := td) (k := k) (i := 0) h
  unfold Instr.findKey
  cases hn : nowX td k cs 0 with
  | some r' =>
    rw [hn] at hr
    have hr' : some r' = some r := hr
    injection hr' with hr'
    subst hr'
    obtain ⟨q, g1, g2⟩ := h2 _ hn
    exact ⟨q, by simp [run_underlying hu, g1], g2⟩
  | none =>
    rw [hn] at hr
    obtain ⟨q, g1, g2⟩ := ask_ok (P := P) (w := w) (kt := kt) (k := k) (i := 0) h r hr
    exact ⟨q, by simp [run_underlying hu, h1 hn, g1], g2⟩
def xLookup (P : Program) (n : Nat → XO) (t : TypeId) (c : XV) (k : Value) (ok : Bool) : Option Res :=
  match P.underlying t, c with
  | some (.map kt et), .mr m => match n m, P.underlying kt with
    | .mp es ck, some td => match peel P 4000 (Instr.checkKey es.isEmpty 10000 kt k), findX P kt td k es with
      | some (), some (some (_, v)) => some { x := bif ok then .t [v, .v (.bool true)] else v, rn := [m] }
      | some (), some none => match (P.info? et).bind (·.zero) with
        | some z => some { x := bif ok then .t [ofV 20 z, .v (.bool false)] else ofV 20 z, rn := [m] }
        | none => none
      | _, _ => none
    | _, _ => none
  | _, _ => none
theorem run_getObj {w : World} {r : Nat} {o : Obj} (h : w.heap[r]? = some o) (hc : ∀ c e f, o ≠ .cells c e f) : (getObj r).run P w = .ok o w := by
  unfold getObj Sem.run
  rw [h]
  cases o with
  | cells c e f => exact absurd rfl (hc c e f)
  | _ => rfl
theorem run_setObj {w : World} {r : Nat} {o o' : Obj} (h : w.heap[r]? = some o) (hc : ∀ c e f, o ≠ .cells c e f) : (setObj r o').run P w = .ok () { w with heap := w.heap.setIfInBounds r o' } := by
  unfold setObj Sem.run
  rw [h]
  cases o with
  | cells c e f => exact absurd rfl (hc c e f)
  | _ => rfl
theorem res_empty {β : Nat → Option (Nat × Nat)} {cs : List (Value × XV × Nat)} {es : List MapEntry} (h : REs β cs es) : es.toArray.isEmpty = cs.isEmpty := by
  have := res_len h
  cases cs <;> cases es <;> simp at this ⊢
theorem lookup_ok {o : Oper} {σ : AS} {t : TypeId} {x y : Operand} {ok : Bool} (ho : o.op = .lookup t x y ok) {c : XV} {k : Value} (hx : σ.ev x = some c) (hy : fev σ.ev y = some k) {r : Res} (h : xLookup P σ.n t c k ok = some r) (hd : dOk o N = true) : OpS P N w0 D o σ (r.eff o) := by
  have my : y ∈ o.op.operands := by simp [ho, Op.operands]
  have hkey : ∀ {e : Eff} {σ' : AS} {a : Act} {w : World} {β : Nat → Option (Nat × Nat)}, e.ok o σ σ' → Fits w0 D σ' a w β → a.eval y = k := fun {e σ' a w β} hok hF => by
    unfold fev at hy
    cases hyc : σ.ev y with
    | none => rw [hyc] at hy; cases hy
    | some d => rw [hyc] at hy; exact fl_rx 20 d k _ hy (ev_get hok hF my hyc)
  unfold xLookup at h
  split at h
  · rename_i kt et m hu
    split at h
    · rename_i es ck td hm hkt
      split at h
      · rename_i i v hck hfd
        injection h with h; subst h
        refine opS_still hd fun σ' hok a w β hF => ?_
        obtain ⟨b, g1, g2⟩ := rx_m.1 (ev_get hok hF (x := x) (by simp [ho, Op.operands]) hx)
        have hk := hkey hok hF
        have hm' : σ'.n m = .mp es ck := by rw [hok.n m (by simp)]; exact hm
        have hR := hF.n m
        rw [hm'] at hR
        obtain ⟨b', ents, q1, q2, q3⟩ := hR
        rw [g1] at q1; injection q1 with q1; subst q1
        obtain ⟨q, f1, f2⟩ := find_ok (P := P) hkt q3 hfd w
        cases q with
        | none => exact f2.elim
        | some q =>
          obtain ⟨j, u⟩ := q
          obtain ⟨_, f3, _⟩ := f2
          refine ⟨if ok then .tuple #[u, .bool true] else u, ?_, ?_⟩
          · have hg := run_getObj (P := P) q2 (fun c e f => by simp)
            have hc := peel_ok _ _ _ hck w
            rw [← res_empty q3] at hc
            unfold execOp
            simp only [ho, Instr.lookup, Sem.run_bind, run_underlying hu, Result.andThen_ok, g2, hg, hk, Sem.run_pure, hc, f1]
          · cases ok with
            | true => exact rx_t.2 ⟨[u, .bool true], rfl, Rxs.cons f3 (Rxs.cons (rx_v.2 rfl) Rxs.nil)⟩
            | false => exact f3
      · rename_i hck hfd
        split at h
        · rename_i z hz
          injection h with h; subst h
          obtain ⟨ie, z1, z2⟩ := info_zero hz
          refine opS_still hd fun σ' hok a w β hF => ?_
          obtain ⟨b, g1, g2⟩ := rx_m.1 (ev_get hok hF (x := x) (by simp [ho, Op.operands]) hx)
          have hk := hkey hok hF
          have hm' : σ'.n m = .mp es ck := by rw [hok.n m (by simp)]; exact hm
          have hR := hF.n m
          rw [hm'] at hR
          obtain ⟨b', ents, q1, q2, q3⟩ := hR
          rw [g1] at q1; injection q1 with q1; subst q1
          obtain ⟨q, f1, f2⟩ := find_ok (P := P) hkt q3 hfd w
          cases q with
          | some q => exact f2.elim
          | none =>
            refine ⟨if ok then .tuple #[z, .bool false] else z, ?_, ?_⟩
            · have hg := run_getObj (P := P) q2 (fun c e f => by simp)
              have hc := peel_ok _ _ _ hck w
              rw [← res_empty q3] at hc
              have hzv : (zeroValue et).run P w = .ok z w := by simp [zeroValue, typeInfo, z1, z2]
              unfold execOp
              simp only [ho, Instr.lookup, Sem.run_bind, run_underlying hu, Result.andThen_ok, g2, hg, hk, Sem.run_pure, hc, f1, hzv]
            · cases ok with
              | true => exact rx_t.2 ⟨[z, .bool false], rfl, Rxs.cons (rx_ofV β 20 z) (Rxs.cons (rx_v.2 rfl) Rxs.nil)⟩
              | false => exact rx_ofV β 20 z
        · cases h
      · cases h
    · cases h
  · cases h
def modX (i : Nat) (k : Value) (v : XV) : List (Value × XV × Nat) → List (Value × XV × Nat)
  | [] => []
  | c :: r => match i with
    | 0 => (k, v, c.2.2) :: r
    | i + 1 => c :: modX i k v r
theorem mod_rx {β : Nat → Option (Nat × Nat)} {k u : Value} {v : XV} (hv : Rx β v u) : ∀ {i : Nat} {cs : List (Value × XV × Nat)} {es : List MapEntry}, REs β cs es → REs β (modX i k v cs) (es.modify i fun e => { e with key := k, val := u })
  | i, [], es, h => by
    have h' : es = [] := h
    subst h'
    cases i <;> exact rfl
  | 0, c :: cs, es, h => by
    obtain ⟨e, r, rfl, h2, h3, h4, h5⟩ := h
    exact ⟨{ e with key := k, val := u }, r, by simp, rfl, hv, h4, h5⟩
  | i + 1, c :: cs, es, h => by
    obtain ⟨e, r, rfl, h2, h3, h4, h5⟩ := h
    exact ⟨e, r.modify i fun e => { e with key := k, val := u }, by simp, h2, h3, h4, mod_rx hv h5⟩
theorem push_rx {β : Nat → Option (Nat × Nat)} {k u : Value} {v : XV} {b : Nat} (hv : Rx β v u) : ∀ {cs : List (Value × XV × Nat)} {es : List MapEntry}, REs β cs es → REs β (cs ++ [(k, v, b)]) (es ++ [{ key := k, val := u, born := b }])
  | [], es, h => by
    have h' : es = [] := h
    subst h'
    exact ⟨_, [], rfl, rfl, hv, rfl, rfl⟩
  | c :: cs, es, h => by
    obtain ⟨e, r, rfl, h2, h3, h4, h5⟩ := h
    exact ⟨e, _, rfl, h2, h3, h4, push_rx hv h5⟩
theorem res_key {β : Nat → Option (Nat × Nat)} : ∀ {cs : List (Value × XV × Nat)} {es : List MapEntry} {i : Nat}, REs β cs es → (es[i]?).map (·.key) = (cs[i]?).map (·.1)
  | [], es, i, h => by
    have h' : es = [] := h
    subst h'; rfl
  | c :: cs, es, i, h => by
    obtain ⟨e, r, rfl, h2, h3, h4, h5⟩ := h
    cases i with
    | zero => simp [h2]
    | succ i => simpa using res_key h5
def xMapUpd (P : Program) (n : Nat → XO) (t : TypeId) (c : XV) (k : Value) (v : XV) : Option Res :=
  match P.underlying t, c with
  | some (.map kt _), .mr m => match n m, P.underlying kt with
    | .mp es ck, some td => match peel P 4000 (Instr.checkKey false 10000 kt k), findX P kt td k es with
      | some (), some (some (i, _)) => match peel P 100 (Instr.keyThatStays (((es[i]?).map (·.1)).getD k) k) with
        | some k' => some { x := .v undef, nw := [(m, .mp (modX i k' v es) ck)], rn := [m] }
        | none => none
      | some (), some none => some { x := .v undef, nw := [(m, .mp (es ++ [(k, v, ck)]) (ck + 1))], rn := [m] }
      | _, _ => none
    | _, _ => none
  | _, _ => none
theorem set_obj_world {w : World} {r : Nat} {o : Obj} (h : r < w.heap.size) : ({ w with heap := w.heap.setIfInBounds r o } : World).heap[r]? = some o := by simp [h]
theorem mapUpd_ok {o : Oper} {σ : AS} {t : TypeId} {x y z : Operand} (ho : o.op = .mapUpdate t x y z ∨ o.op = .insert t x y z) {c v : XV} {k : Value} (hx : σ.ev x = some c) (hy : fev σ.ev y = some k) (hz : σ.ev z = some v) {r : Res} (h : xMapUpd P σ.n t c k v = some r) (hd : dOk o N = true) : OpS P N w0 D o σ (r.eff o) := by
  have mx : x ∈ o.op.operands := by rcases ho with ho | ho <;> simp [ho, Op.operands]
  have my : y ∈ o.op.operands := by rcases ho with ho | ho <;> simp [ho, Op.operands]
  have mz : z ∈ o.op.operands := by rcases ho with ho | ho <;> simp [ho, Op.operands]
  have hkey : ∀ {e : Eff} {σ' : AS} {a : Act} {w : World} {β : Nat → Option (Nat × Nat)}, e.ok o σ σ' → Fits w0 D σ' a w β → a.eval y = k := fun {e σ' a w β} hok hF => by
    unfold fev at hy
    cases hyc : σ.ev y with
    | none => rw [hyc] at hy; cases hy
    | some d => rw [hyc] at hy; exact fl_rx 20 d k _ hy (ev_get hok hF my hyc)
  have hexec : ∀ {a : Act} {w w' : World}, (Instr.mapUpdate t (a.eval x) (a.eval y) (a.eval z)).run P w = .ok () w' → (execOp a.eval o).run P w = .ok .skip w' := fun {a w w'} h => by
    rcases ho with ho | ho <;> (unfold execOp; simp only [ho, Sem.run_bind, h, Result.andThen_ok, Sem.run_pure])
  unfold xMapUpd at h
  split at h
  · rename_i kt et m hu
    split at h
    · rename_i es ck td hm hkt
      have main : ∀ {r : Res} (es' : List (Value × XV × Nat)) (ck' : Nat), r = { x := .v undef, nw := [(m, .mp es' ck')], rn := [m] } →
          (∀ (β : Nat → Option (Nat × Nat)) (ents : List MapEntry) (u : Value) (b : Nat) (w : World), REs β es ents → Rx β v u → w.heap[b]? = some (.map ents.toArray ck) → ∃ ents', (Instr.mapUpdate t (.map (some b)) k u).run P w = .ok () { w with heap := w.heap.setIfInBounds b (.map (List.toArray ents') ck') } ∧ REs β es' ents') → OpS P N w0 D o σ (r.eff o) := fun {r} es' ck' hr hrun => by
        subst hr
        intro σ' hok a w hst K Q hK
        obtain ⟨β, hF⟩ := hst.f
        obtain ⟨b, g1, g2⟩ := rx_m.1 (ev_get hok hF mx hx)
        have hk := hkey hok hF
        have hm' : σ'.n m = .mp es ck := by rw [hok.n m (by simp [Res.eff])]; exact hm
        have hR := hF.n m
        rw [hm'] at hR
        obtain ⟨b', ents, q1, q2, q3⟩ := hR
        rw [g1] at q1; injection q1 with q1; subst q1
        have hlt : b.1 < w.heap.size := (Array.getElem?_eq_some_iff.1 q2).1
        obtain ⟨ents', e1, e2⟩ := hrun β ents _ b.1 w q3 (ev_get hok hF mz hz) q2
        refine owp_s (hexec (by rw [g2, hk]; exact e1)) ?_
        exact hK _ _ (hst.set (w' := { w with heap := w.heap.setIfInBounds b.1 (.map (List.toArray ents') ck') }) (ob := .mp es' ck') hF (m := m) (by rw [hm']; rfl) g1 rfl rfl rfl rfl (by simp) (fun g hg hne => by simp [Array.getElem?_setIfInBounds_ne (Ne.symm hne)]) ⟨b, ents', g1, set_obj_world hlt, e2⟩ hd (rx_v.2 rfl) [m])
      split at h
      · rename_i i c0 hck hfd
        split at h
        · rename_i k' hst
          injection h with h
          refine main _ _ h.symm fun β ents u b w q3 hv q2 => ?_
          obtain ⟨q, f1, f2⟩ := find_ok (P := P) hkt q3 hfd w
          cases q with
          | none => exact f2.elim
          | some q =>
            obtain ⟨j, u0⟩ := q
            obtain ⟨hij, _, _⟩ := f2
            subst hij
            refine ⟨ents.modify i fun e => { e with key := k', val := u }, ?_, mod_rx hv q3⟩
            have hg := run_getObj (P := P) q2 (fun c e f => by simp)
            have hc := peel_ok _ _ _ hck w
            have hs := run_setObj (P := P) (o' := .map (List.toArray (ents.modify i fun e => { e with key := k', val := u })) ck) q2 (fun c e f => by simp)
            have hkt' := peel_ok _ _ _ hst w
            rw [← res_key q3] at hkt'
            unfold Instr.mapUpdate
            have hl : (ents.toArray[i]?).map (·.key) = (ents[i]?).map (·.key) := by simp
            simp only [Sem.run_bind, run_underlying hu, Result.andThen_ok, hg, hc, f1, hl, hkt']
            have hmm : ents.toArray.modify i (fun e => { e with key := k', val := u }) = (List.toArray (ents.modify i fun e => { e with key := k', val := u })) := by simp
            rw [hmm, hs]
        · cases h
      · rename_i hck hfd
        injection h with h
        refine main _ _ h.symm fun β ents u b w q3 hv q2 => ?_
        obtain ⟨q, f1, f2⟩ := find_ok (P := P) hkt q3 hfd w
        cases q with
        | some q => exact f2.elim
        | none =>
          refine ⟨ents ++ [{ key := k, val := u, born := ck }], ?_, push_rx hv q3⟩
          have hg := run_getObj (P := P) q2 (fun c e f => by simp)
          have hc := peel_ok _ _ _ hck w
          have hs := run_setObj (P := P) (o' := .map (List.toArray (ents ++ [{ key := k, val := u, born := ck }])) (ck + 1)) q2 (fun c e f => by simp)
          unfold Instr.mapUpdate
          simp only [Sem.run_bind, run_underlying hu, Result.andThen_ok, hg, hc, f1]
          have hmm : ents.toArray.push { key := k, val := u, born := ck } = (List.toArray (ents ++ [{ key := k, val := u, born := ck }])) := by simp
          rw [hmm, hs]
      · cases h
    · cases h
  · cases h
/-- an entry of a map is taken out -/
def xDel (P : Program) (n : Nat → XO) (t : TypeId) (c : XV) (k : Value) : Option Res :=
  match P.underlying t, c with
  | some (.map kt _), .mr m => match n m, P.underlying kt with
    | .mp es ck, some td => match peel P 4000 (Instr.checkKey es.isEmpty 10000 kt k), findX P kt td k es with
      | some (), some (some (i, _)) => some { x := .t [], nw := [(m, .mp (es.eraseIdx i) ck)], rn := [m] }
      | some (), some none => some { x := .t [], nw := [(m, .mp es ck)], rn := [m] }
      | _, _ => none
    | _, _ => none
  | _, _ => none
theorem era_rx {β : Nat → Option (Nat × Nat)} : ∀ {i : Nat} {cs : List (Value × XV × Nat)} {es : List MapEntry}, REs β cs es → REs β (cs.eraseIdx i) (es.eraseIdx i)
  | i, [], es, h => by
    have h' : es = [] := h
    subst h'
    cases i <;> exact rfl
  | 0, c :: cs, es, h => by
    obtain ⟨e, r, rfl, h2, h3, h4, h5⟩ := h
    exact h5
  | i + 1, c :: cs, es, h => by
    obtain ⟨e, r, rfl, h2, h3, h4, h5⟩ := h
    exact ⟨e, r.eraseIdx i, rfl, h2, h3, h4, era_rx h5⟩
theorem del_ok {o : Oper} {σ : AS} {t t2 : TypeId} {x y : Operand} (ho : o.op = .call { callee := .builtin .delete, args := #[x, y], argTypes := #[t, t2] }) {c : XV} {k : Value} (hx : σ.ev x = some c) (hy : fev σ.ev y = some k) {r : Res} (h : xDel P σ.n t c k = some r) (hd : dOk o N = true) : OpS P N w0 D o σ (r.eff o) := by
  have mx : x ∈ o.op.operands := by simp [ho, Op.operands, Call.operands]
  have my : y ∈ o.op.operands := by simp [ho, Op.operands, Call.operands]
  have hkey : ∀ {e : Eff} {σ' : AS} {a : Act} {w : World} {β : Nat → Option (Nat × Nat)}, e.ok o σ σ' → Fits w0 D σ' a w β → a.eval y = k := fun {e σ' a w β} hok hF => by
    unfold fev at hy
    cases hyc : σ.ev y with
    | none => rw [hyc] at hy; cases hy
    | some d => rw [hyc] at hy; exact fl_rx 20 d k _ hy (ev_get hok hF my hyc)
  have hexec : ∀ {a : Act} {w w' : World}, (Builtin.delete_ #[t, t2] o.type #[a.eval x, a.eval y]).run P w = .ok (.tuple #[]) w' → (execOp a.eval o).run P w = .ok (.value (.tuple #[])) w' := fun {a w w'} h => by
    simp [execOp, ho, resolve, invoke, builtin, h]
  unfold xDel at h
  split at h
  · rename_i kt et m hu
    split at h
    · rename_i es ck td hm hkt
      have main : ∀ {r : Res} (es' : List (Value × XV × Nat)), r = { x := .t [], nw := [(m, .mp es' ck)], rn := [m] } →
          (∀ (β : Nat → Option (Nat × Nat)) (ents : List MapEntry) (b : Nat) (w : World), REs β es ents → w.heap[b]? = some (.map ents.toArray ck) → ∃ ents', (Builtin.delete_ #[t, t2] o.type #[.map (some b), k]).run P w = .ok (.tuple #[]) { w with heap := w.heap.setIfInBounds b (.map (List.toArray ents') ck) } ∧ REs β es' ents') → OpS P N w0 D o σ (r.eff o) := fun {r} es' hr hrun => by
        subst hr
        intro σ' hok a w hst K Q hK
        obtain ⟨β, hF⟩ := hst.f
        obtain ⟨b, g1, g2⟩ := rx_m.1 (ev_get hok hF mx hx)
        have hk := hkey hok hF
        have hm' : σ'.n m = .mp es ck := by rw [hok.n m (by simp [Res.eff])]; exact hm
        have hR := hF.n m
        rw [hm'] at hR
        obtain ⟨b', ents, q1, q2, q3⟩ := hR
        rw [g1] at q1; injection q1 with q1; subst q1
        have hlt : b.1 < w.heap.size := (Array.getElem?_eq_some_iff.1 q2).1
        obtain ⟨ents', e1, e2⟩ := hrun β ents b.1 w q3 q2
        refine owp_v (hexec (by rw [g2, hk]; exact e1)) ?_
        exact hK _ _ (hst.set (w' := { w with heap := w.heap.setIfInBounds b.1 (.map (List.toArray ents') ck) }) (ob := .mp es' ck) hF (m := m) (by rw [hm']; rfl) g1 rfl rfl rfl rfl (by simp) (fun g hg hne => by simp [Array.getElem?_setIfInBounds_ne (Ne.symm hne)]) ⟨b, ents', g1, set_obj_world hlt, e2⟩ hd (rx_t.2 ⟨[], rfl, Rxs.nil⟩) [m])
      split at h
      · rename_i i c0 hck hfd
        injection h with h
        refine main _ h.symm fun β ents b w q3 q2 => ?_
        obtain ⟨q, f1, f2⟩ := find_ok (P := P) hkt q3 hfd w
        cases q with
        | none => exact f2.elim
        | some q =>
          obtain ⟨j, u0⟩ := q
          obtain ⟨hij, _, _⟩ := f2
          subst hij
          refine ⟨ents.eraseIdx i, ?_, era_rx q3⟩
          have hg := run_getObj (P := P) q2 (fun c e f => by simp)
          have hc := peel_ok _ _ _ hck w
          rw [← res_empty q3] at hc
          have hs := run_setObj (P := P) (o' := .map (List.toArray (ents.eraseIdx i)) ck) q2 (fun c e f => by simp)
          unfold Builtin.delete_
          simp only [List.getElem?_toArray, List.getElem?_cons_zero, List.getElem?_cons_succ, Sem.run_bind, run_underlying hu, Result.andThen_ok, hg, hc, f1]
          have hmm : ents.toArray.eraseIdxIfInBounds i = List.toArray (ents.eraseIdx i) := by simp
          rw [hmm, hs]
          rfl
      · rename_i hck hfd
        injection h with h
        refine main _ h.symm fun β ents b w q3 q2 => ?_
        obtain ⟨q, f1, f2⟩ := find_ok (P := P) hkt q3 hfd w
        cases q with
        | some q => exact f2.elim
        | none =>
          refine ⟨ents, ?_, q3⟩
          have hg := run_getObj (P := P) q2 (fun c e f => by simp)
          have hc := peel_ok _ _ _ hck w
          rw [← res_empty q3] at hc
          have hs := run_setObj (P := P) (o' := .map (List.toArray ents) ck) q2 (fun c e f => by simp)
          unfold Builtin.delete_
          simp only [List.getElem?_toArray, List.getElem?_cons_zero, List.getElem?_cons_succ, Sem.run_bind, run_underlying hu, Result.andThen_ok, hg, hc, f1]
          rw [hs]
          rfl
      · cases h
    · cases h
  · cases h
/-- so many zeros behind nothing (slices.Grow) -/
def xAppZ (P : Program) (k : Nat) (t t2 : TypeId) (base src : XV) : Option Res :=
  match P.underlying t, P.underlying t2, base, src with
  | some (.slice e), some (.int _), .v (.slice none 0 0), .v (.int _ q) => match P.info? e with
    | some i => match i.zero with
      | some z => bif (Nat.beq z.cells.size i.size && (decide (0 < q) && Nat.blt 0 i.size)) && ((decide (IntKind.i64.wrap q = q) && roomB q.toNat i.bytes) && (zerosX z (q.toNat * i.size)).all XV.one) then some { x := .s k 0 q.toNat none i.size, nw := [(k, .c (zerosX z (q.toNat * i.size)) e true)], fr := [k] } else none
      | none => none
    | none => none
  | _, _, _, _ => none
theorem run_growZ {t t2 ty e : TypeId} {k2 : IntKind} {kk : IntKind} {i : TypeInfo} {z : Value} (ht : P.underlying t = some (.slice e)) (h2 : P.underlying t2 = some (.int k2)) (hi : P.info? e = some i) (hz : i.zero = some z)
    {w : World} {q : Int} (hq : 0 < q) (hw : IntKind.i64.wrap q = q) (h63 : q.toNat ≤ maxLen) (hb : q.toNat * i.bytes ≤ 140737488355328) (hsz : 0 < i.size) :
    (Builtin.append_ #[t, t2] ty #[.slice none 0 0, .int kk q]).run P w = .ok (.slice (some ⟨w.heap.size, 0, none⟩) q.toNat (grownCap w q.toNat 0 e))
      (w.drew.alloc (.cells (Builtin.zeroCells z.cells q.toNat ++ Builtin.zeroCells z.cells (grownCap w q.toNat 0 e - q.toNat)) e)) := by
  have h63' : ¬ (9223372036854775807 < (q.toNat : Int)) := by unfold maxLen at h63; omega
  have hqn : 0 < q.toNat := by omega
  have hfit := growslice_fits (show 0 < q.toNat from hqn) hb
  have h48' : ¬ (281474976710656 < Builtin.nextslicecap q.toNat 0 * i.bytes) := by omega
  have hl : ¬ q < 0 := by omega
  have hbi : ¬ (281474976710656 : Int) < q * (i.bytes : Int) := by
    have e : q = (q.toNat : Int) := by omega
    rw [e, ← Int.natCast_mul]; omega
  have hn0 : ¬ q.toNat = 0 := by omega
  have hn1 : ¬ q ≤ 0 := by omega
  have hm : ¬ q.toNat * i.size = 0 := Nat.pos_iff_ne_zero.1 (Nat.mul_pos hqn hsz)
  have hs0 : ¬ i.size = 0 := by omega
  have hmx : ¬ (9223372036854775807 < max q 0) := by omega
  simp [Builtin.append_, run_underlying ht, run_underlying h2, sizeOf, typeInfo, zeroValue, hi, hz, asInt, asIntOf, hw, hl, hbi, hn0, hn1, hs0, hm, hmx, h63', h48', Question.forced, newRow, grownCap, Builtin.firstCells]
theorem appZ_ok {o : Oper} {σ : AS} {t t2 : TypeId} {s x : Operand} {k : Nat} (ho : o.op = .call { callee := .builtin .append, args := #[s, x], argTypes := #[t, t2] }) {c d : XV} (hs : σ.ev s = some c) (hx : σ.ev x = some d) {r : Res} (h : xAppZ P k t t2 c d = some r) (hd : dOk o N = true) : OpS P N w0 D o σ (r.eff o) := by
  have ms : s ∈ o.op.operands := by simp [ho, Op.operands, Call.operands]
  have mx : x ∈ o.op.operands := by simp [ho, Op.operands, Call.operands]
  unfold xAppZ at h
  split at h
  · rename_i e k2 kk q hu hu2
    split at h
    · rename_i i hi
      split at h
      · rename_i z hz
        cases hck : ((Nat.beq z.cells.size i.size && (decide (0 < q) && Nat.blt 0 i.size)) && ((decide (IntKind.i64.wrap q = q) && roomB q.toNat i.bytes) && (zerosX z (q.toNat * i.size)).all XV.one)) with
        | false => rw [hck] at h; cases h
        | true =>
          rw [hck, cond_true] at h
          simp only [Bool.and_eq_true, decide_eq_true_eq] at hck
          obtain ⟨⟨c1, c2, c6⟩, ⟨c3, c4⟩, c5⟩ := hck
          have hzs := Nat.eq_of_beq_eq_true c1
          obtain ⟨r1, r2⟩ := room_of c4
          have hsz : 0 < i.size := Nat.le_of_ble_eq_true c6
          · injection h with h
            subst h
            refine opS_new hd fun σ' hok a w β hF => ?_
            have e1 := rx_v.1 (ev_get hok hF ms hs)
            have e2 := rx_v.1 (ev_get hok hF mx hx)
            have hrun := run_growZ (P := P) (ty := o.type) (kk := kk) (w := w) hu hu2 hi hz c2 c3 r1 r2 hsz
            have hzl : (Builtin.zeroCells z.cells q.toNat).toList.length = q.toNat * i.size := by simp [size_zeroCells, hzs]
            refine ⟨(Builtin.zeroCells z.cells q.toNat).toList, (Builtin.zeroCells z.cells (grownCap w q.toNat 0 e - q.toNat)).toList, (0, 0), w.drew, _, rfl, rfl, rfl, rfl, app_ex ho (by rw [e1, e2, hrun]; congr 2; congr 1; apply Array.ext'; simp), no_fz _, ?_, fun h => (by cases h), fun β' hβ hk => rx_s.2 ⟨_, _, hk, rfl, grownCap_ge w q.toNat 0 e, fun c' hc => (by cases hc), fun _ => ?_⟩⟩
            · have := zeros_rx (β := β) z (q.toNat * z.cells.size)
              rw [← hzs]
              exact this
            · rw [grown_size hzs, hzl, ← Nat.add_mul, Nat.zero_add, Nat.add_sub_cancel' (grownCap_ge w q.toNat 0 e)]
      · cases h
    · cases h
  · cases h
def xAppend2 (P : Program) (n : Nat → XO) (k : Nat) (t t2 : TypeId) (base src : XV) : Option Res :=
  match xAppend P n k t t2 base src with
  | some r => some r
  | none => xAppZ P k t t2 base src
theorem append2_ok {o : Oper} {σ : AS} {t t2 : TypeId} {s x : Operand} {k : Nat} (ho : o.op = .call { callee := .builtin .append, args := #[s, x], argTypes := #[t, t2] }) {c d : XV} (hs : σ.ev s = some c) (hx : σ.ev x = some d) {r : Res} (h : xAppend2 P σ.n k t t2 c d = some r) (hd : dOk o N = true) : OpS P N w0 D o σ (r.eff o) := by
  unfold xAppend2 at h
  split at h
  · rename_i r' hr
    injection h with h
    subst h
    exact append_ok ho hs hx hr hd
  · exact appZ_ok ho hs hx h hd
/-! ### iterators -/
def xRange (P : Program) (n : Nat → XO) (k : Nat) (t : TypeId) (c : XV) : Option Res :=
  match P.underlying t, c with
  | some .string, .v (.string s) => some { x := .p k 0, nw := [(k, .si s 0)], fr := [k] }
  | some (.map _ _), .v (.map none) => some { x := .p k 0, nw := [(k, .mi none 0 #[] 0)], fr := [k] }
  | some (.map _ _), .mr m => match n m with
    | .mp _ ck => some { x := .p k 0, nw := [(k, .mi (some m) ck #[] ck)], rn := [m], fr := [k] }
    | _ => none
  | _, _ => none
theorem range_ok {o : Oper} {σ : AS} {t : TypeId} {x : Operand} {k : Nat} (ho : o.op = .range t x) {c : XV} (hx : σ.ev x = some c) {r : Res} (h : xRange P σ.n k t c = some r) (hd : dOk o N = true) : OpS P N w0 D o σ (r.eff o) := by
  have mx : x ∈ o.op.operands := by simp [ho, Op.operands]
  unfold xRange at h
  split at h
  · rename_i s hu
    injection h with h; subst h
    refine opS_obj hd rfl fun σ' hok a w β hF => ⟨.stringIter s 0, .pointer (some ⟨w.heap.size, 0, none⟩), ?_, fun β' hβ hk => ⟨⟨_, hk, Go.heap_alloc_new w _⟩, rx_p.2 ⟨_, hk, rfl⟩⟩⟩
    have e1 := rx_v.1 (ev_get hok hF mx hx)
    simp [execOp, ho, Instr.range, run_underlying hu, e1, newObj, Sem.run]
  · rename_i e1 e2 hu
    injection h with h; subst h
    refine opS_obj hd rfl fun σ' hok a w β hF => ⟨.mapIter none 0 #[] 0, .pointer (some ⟨w.heap.size, 0, none⟩), ?_, fun β' hβ hk => ⟨⟨_, none, hk, Go.heap_alloc_new w _, rfl⟩, rx_p.2 ⟨_, hk, rfl⟩⟩⟩
    have e1 := rx_v.1 (ev_get hok hF mx hx)
    simp [execOp, ho, Instr.range, run_underlying hu, e1, newObj, Sem.run]
  · rename_i e1 e2 m hu
    split at h
    · rename_i es ck hm
      injection h with h; subst h
      refine opS_obj hd rfl fun σ' hok a w β hF => ?_
      obtain ⟨b, g1, g2⟩ := rx_m.1 (ev_get hok hF mx hx)
      have hm' : σ'.n m = .mp es ck := by rw [hok.n m (by simp [Res.eff])]; exact hm
      have hR := hF.n m
      rw [hm'] at hR
      obtain ⟨b', ents, q1, q2, q3⟩ := hR
      rw [g1] at q1; injection q1 with q1; subst q1
      refine ⟨.mapIter (some b.1) ck #[] ck, .pointer (some ⟨w.heap.size, 0, none⟩), ?_, fun β' hβ hk => ⟨⟨_, some b.1, hk, Go.heap_alloc_new w _, b, hβ _ _ g1, rfl⟩, rx_p.2 ⟨_, hk, rfl⟩⟩⟩
      have hg := run_getObj (P := P) q2 (fun c e f => by simp)
      simp [execOp, ho, Instr.range, run_underlying hu, g2, hg, newObj, Sem.run]
    · cases h
  · cases h
end
end Go.Proofs.Ytobgdemhadlgnaa.Ev

namespace Go.Proofs.Ytobgdemhadlgnaa.Ev
open Go Go.RowKit
section
variable {P : Program} {N : Nat} {w0 : World} {D : Dom}
/-- one of several results, whichever the world draws -/
def OpL (P : Program) (N : Nat) (w0 : World) (D : Dom) (o : Oper) (σ : AS) (rs : List Res) : Prop :=
  ∀ σ', (∀ r ∈ rs, (r.eff o).ok o σ σ') → ∀ a w, St N w0 D σ' a w → ∀ K Q, (∀ r ∈ rs, ∀ a' w', St N w0 D ((r.eff o).ap σ') a' w' → K a' w') → owp P o a w K Q
theorem OpS.one {o : Oper} {σ : AS} {r : Res} (h : OpS P N w0 D o σ (r.eff o)) : OpL P N w0 D o σ [r] := fun σ' hok a w hs K Q hK => h σ' (hok r (by simp)) a w hs K Q (fun a' w' hs' => hK r (by simp) a' w' hs')
def fltX (p : Nat → Bool) : List (Value × XV × Nat) → List (Value × XV × Nat)
  | [] => []
  | c :: r => bif p c.2.2 then c :: fltX p r else fltX p r
theorem flt_rx {β : Nat → Option (Nat × Nat)} {p : Nat → Bool} : ∀ {cs : List (Value × XV × Nat)} {es : List MapEntry}, REs β cs es → REs β (fltX p cs) (es.filter fun e => p e.born)
  | [], es, h => by
    have h' : es = [] := h
    subst h'; exact rfl
  | c :: cs, es, h => by
    obtain ⟨e, r, rfl, h2, h3, h4, h5⟩ := h
    unfold fltX
    rw [List.filter_cons, h4]
    cases hp : p c.2.2 with
    | true => rw [cond_true, if_pos rfl]; exact ⟨e, _, rfl, h2, h3, h4, flt_rx h5⟩
    | false => rw [cond_false, if_neg (by decide)]; exact flt_rx h5
theorem app_rx {β : Nat → Option (Nat × Nat)} : ∀ {cs ds : List (Value × XV × Nat)} {es fs : List MapEntry}, REs β cs es → REs β ds fs → REs β (cs ++ ds) (es ++ fs)
  | [], ds, es, fs, h, k => by
    have h' : es = [] := h
    subst h'; exact k
  | c :: cs, ds, es, fs, h, k => by
    obtain ⟨e, r, rfl, h2, h3, h4, h5⟩ := h
    exact ⟨e, _, rfl, h2, h3, h4, app_rx h5 k⟩
theorem get_rx {β : Nat → Option (Nat × Nat)} : ∀ {cs : List (Value × XV × Nat)} {es : List MapEntry} {i : Nat} {e : MapEntry}, REs β cs es → es[i]? = some e → ∃ c, cs[i]? = some c ∧ e.key = c.1 ∧ Rx β c.2.1 e.val ∧ e.born = c.2.2
  | [], es, i, e, h, hi => by
    have h' : es = [] := h
    subst h'; simp at hi
  | c :: cs, es, i, e, h, hi => by
    obtain ⟨e', r, rfl, h2, h3, h4, h5⟩ := h
    cases i with
    | zero => simp at hi; subst hi; exact ⟨c, rfl, h2, h3, h4⟩
    | succ i => simpa using get_rx (i := i) h5 (by simpa using hi)
def allX (p : Nat → Bool) : List (Value × XV × Nat) → Bool
  | [] => true
  | c :: r => p c.2.2 && allX p r
theorem all_rx {β : Nat → Option (Nat × Nat)} {p : Nat → Bool} : ∀ {cs : List (Value × XV × Nat)} {es : List MapEntry}, REs β cs es → es.all (fun e => p e.born) = allX p cs
  | [], es, h => by
    have h' : es = [] := h
    subst h'; rfl
  | c :: cs, es, h => by
    obtain ⟨e, r, rfl, h2, h3, h4, h5⟩ := h
    rw [List.all_cons, h4, all_rx h5]; rfl
def overR (rn : List Nat) : Res := { x := .t [.v (.bool false)], rn := rn }
def xNext (n : Nat → XO) (c : XV) (isStr : Bool) : Option (List Res) :=
  match c with
  | .p m 0 => match n m, isStr with
    | .si s pos, true => bif Nat.blt pos s.size then some [{ x := .t [.v (.bool true), nInt pos, .v (.int .i32 (Utf8.decode s pos).1)], nw := [(m, .si s (pos + (Utf8.decode s pos).2))], rn := [m] }] else some [overR [m]]
    | .mi none _ _ _, false => some [overR [m]]
    | .mi (some q) since seen last, false => match n q with
      | .mp es ck => bif (!seen.isEmpty && !es.isEmpty && allX (fun b => Nat.ble last b) es) then none else
          let old := fltX (fun b => Nat.blt b since) (fltX (fun b => !seen.contains b) es)
          let new := fltX (fun b => Nat.ble since b) (fltX (fun b => !seen.contains b) es)
          some ((bif old.isEmpty then [overR [m, q]] else []) ++ (old ++ new).map fun e => { x := .t [.v (.bool true), ofV 20 e.1, e.2.1], nw := [(m, .mi (some q) since (seen.push e.2.2) ck)], rn := [m, q] })
      | _ => none
    | _, _ => none
  | _ => none
theorem next_ok {o : Oper} {σ : AS} {x : Operand} {isStr : Bool} (ho : o.op = .next x isStr) {c : XV} (hx : σ.ev x = some c) {rs : List Res} (h : xNext σ.n c isStr = some rs) (hd : dOk o N = true) : OpL P N w0 D o σ rs := by
  have mx : x ∈ o.op.operands := by simp [ho, Op.operands]
  have hexec : ∀ {a : Act} {w w' : World} {v : Value}, (Instr.next (a.eval x) isStr o.type).run P w = .ok v w' → (execOp a.eval o).run P w = .ok (.value v) w' := fun {a w w' v} h => by
    unfold execOp; simp only [ho, Sem.run_bind, h, Result.andThen_ok, Sem.run_pure]
  unfold xNext at h
  split at h
  · rename_i m
    split at h
    · rename_i s pos hm
      cases hlt : Nat.blt pos s.size with
      | true =>
        rw [hlt, cond_true] at h
        have hlt' : pos < s.size := Nat.le_of_ble_eq_true hlt
        injection h with h; subst h
        intro σ' hok a w hst K Q hK
        have hok := hok _ (List.mem_singleton.2 rfl)
        have hK := hK _ (List.mem_singleton.2 rfl)
        obtain ⟨β, hF⟩ := hst.f
        obtain ⟨b, g1, g2⟩ := rx_p.1 (ev_get hok hF mx hx)
        have hm' : σ'.n m = .si s pos := by rw [hok.n m (by simp [Res.eff])]; exact hm
        have hR := hF.n m
        rw [hm'] at hR
        obtain ⟨b', q1, q2⟩ := hR
        rw [g1] at q1; injection q1 with q1; subst q1
        have hblt : b.1 < w.heap.size := (Array.getElem?_eq_some_iff.1 q2).1
        have hg := run_getObj (P := P) q2 (fun c e f => by simp)
        have hs := run_setObj (P := P) (o' := .stringIter s (pos + (Utf8.decode s pos).2)) q2 (fun c e f => by simp)
        have hrun : (Instr.next (a.eval x) true o.type).run P w = .ok (.tuple #[.bool true, goInt pos, .int .i32 (Utf8.decode s pos).1]) { w with heap := w.heap.setIfInBounds b.1 (.stringIter s (pos + (Utf8.decode s pos).2)) } := by
          rw [g2]; unfold Instr.next; simp [hg, hlt', hs]
        first | refine owp_v (hexec hrun) ?_ | refine owp_s (hexec hrun) ?_
        exact hK _ _ (hst.set (w' := { w with heap := w.heap.setIfInBounds b.1 (.stringIter s (pos + (Utf8.decode s pos).2)) }) (ob := .si s (pos + (Utf8.decode s pos).2)) hF (m := m) (by rw [hm']; rfl) g1 rfl rfl rfl rfl (by simp) (fun g hg hne => by simp [Array.getElem?_setIfInBounds_ne (Ne.symm hne)]) ⟨b, g1, set_obj_world hblt⟩ hd (rx_t.2 ⟨[.bool true, goInt pos, .int .i32 (Utf8.decode s pos).1], rfl, Rxs.cons (rx_v.2 rfl) (Rxs.cons (rx_v.2 rfl) (Rxs.cons (rx_v.2 rfl) Rxs.nil))⟩) [m])
      | false =>
        rw [hlt, cond_false] at h
        have hlt' : ¬ pos < s.size := fun hh => by rw [show Nat.blt pos s.size = true from Nat.ble_eq_true_of_le hh] at hlt; cases hlt
        injection h with h; subst h
        refine OpS.one (opS_still hd fun σ' hok a w β hF => ?_)
        obtain ⟨b, g1, g2⟩ := rx_p.1 (ev_get hok hF mx hx)
        have hm' : σ'.n m = .si s pos := by rw [hok.n m (by simp [overR])]; exact hm
        have hR := hF.n m
        rw [hm'] at hR
        obtain ⟨b', q1, q2⟩ := hR
        rw [g1] at q1; injection q1 with q1; subst q1
        have hg := run_getObj (P := P) q2 (fun c e f => by simp)
        refine ⟨.tuple #[.bool false], hexec ?_, rx_t.2 ⟨[.bool false], rfl, Rxs.cons (rx_v.2 rfl) Rxs.nil⟩⟩
        rw [g2]; unfold Instr.next; simp [hg, hlt']
    · rename_i since seen last hm
      injection h with h; subst h
      refine OpS.one (opS_still hd fun σ' hok a w β hF => ?_)
      obtain ⟨b, g1, g2⟩ := rx_p.1 (ev_get hok hF mx hx)
      have hm' : σ'.n m = .mi none since seen last := by rw [hok.n m (by simp [overR])]; exact hm
      have hR := hF.n m
      rw [hm'] at hR
      obtain ⟨b', r0, q1, q2, q3⟩ := hR
      rw [g1] at q1; injection q1 with q1; subst q1
      have q3' : r0 = none := q3
      subst q3'
      have hg := run_getObj (P := P) q2 (fun c e f => by simp)
      refine ⟨.tuple #[.bool false], hexec ?_, rx_t.2 ⟨[.bool false], rfl, Rxs.cons (rx_v.2 rfl) Rxs.nil⟩⟩
      rw [g2]; unfold Instr.next; simp [hg]
    · rename_i q since seen last hm
      split at h
      · rename_i es ck hq
        cases hguard : (!seen.isEmpty && !es.isEmpty && allX (fun b => Nat.ble last b) es) with
        | true => rw [hguard] at h; cases h
        | false =>
          rw [hguard, cond_false] at h
          simp only at h
          injection h with h
          generalize hold : fltX (fun b => Nat.blt b since) (fltX (fun b => !seen.contains b) es) = old at h
          generalize hnew : fltX (fun b => Nat.ble since b) (fltX (fun b => !seen.contains b) es) = new at h
          have hrn : ∀ r ∈ rs, r.rn = [m, q] := fun r hr => by
            rw [← h] at hr
            rcases List.mem_append.1 hr with hr | hr
            · cases hb : old.isEmpty with
              | true => rw [hb] at hr; simp at hr; rw [hr]; rfl
              | false => rw [hb] at hr; simp at hr
            · obtain ⟨e, _, rfl⟩ := List.mem_map.1 hr; rfl
          have hne : rs ≠ [] := fun e => by
            rw [← h] at e
            cases hb : old.isEmpty with
            | true => rw [hb] at e; simp at e
            | false => rw [hb] at e; cases old with
              | nil => cases hb
              | cons => simp at e
          intro σ' hok a w hst K Q hK
          obtain ⟨r0, hr0⟩ := List.exists_mem_of_ne_nil _ hne
          have hok0 := hok r0 hr0
          obtain ⟨β, hF⟩ := hst.f
          obtain ⟨b, g1, g2⟩ := rx_p.1 (ev_get hok0 hF mx hx)
          have hm' : σ'.n m = .mi (some q) since seen last := by rw [hok0.n m (by show m ∈ r0.rn; rw [hrn r0 hr0]; simp)]; exact hm
          have hq' : σ'.n q = .mp es ck := by rw [hok0.n q (by show q ∈ r0.rn; rw [hrn r0 hr0]; simp)]; exact hq
          have hR := hF.n m
          rw [hm'] at hR
          obtain ⟨b', rr, q1, q2, g, q3, q4⟩ := hR
          rw [g1] at q1; injection q1 with q1; subst q1
          subst q4
          have hR2 := hF.n q
          rw [hq'] at hR2
          obtain ⟨g', ents, p1, p2, p3⟩ := hR2
          rw [q3] at p1; injection p1 with p1; subst p1
          have hblt : b.1 < w.heap.size := (Array.getElem?_eq_some_iff.1 q2).1
          have hg1 := run_getObj (P := P) q2 (fun c e f => by simp)
          have hg2 := run_getObj (P := P) p2 (fun c e f => by simp)
          have hG : (!seen.isEmpty && !ents.toArray.isEmpty && ents.toArray.all fun e => decide (e.born ≥ last)) = false := by
            rw [res_empty p3, ← Array.all_toList]
            have : ents.toArray.toList.all (fun e => decide (e.born ≥ last)) = allX (fun b => Nat.ble last b) es := by
              rw [← all_rx p3]
              congr 1
              funext e
              cases hle : Nat.ble last e.born with
              | true => exact decide_eq_true (Nat.le_of_ble_eq_true hle)
              | false => exact decide_eq_false (fun hh => by rw [Nat.ble_eq_true_of_le hh] at hle; cases hle)
            rw [this]; exact hguard
          have hleft : (ents.toArray.filter fun e => !seen.contains e.born) = (ents.filter fun e => !seen.contains e.born).toArray := by simp
          have d1 : ∀ e : MapEntry, decide (e.born < since) = Nat.blt e.born since := fun e => by
            cases hle : Nat.blt e.born since with
            | true => exact decide_eq_true (Nat.le_of_ble_eq_true hle)
            | false => exact decide_eq_false (fun hh => by rw [show Nat.blt e.born since = true from Nat.ble_eq_true_of_le hh] at hle; cases hle)
          have d2 : ∀ e : MapEntry, decide (e.born ≥ since) = Nat.ble since e.born := fun e => by
            cases hle : Nat.ble since e.born with
            | true => exact decide_eq_true (Nat.le_of_ble_eq_true hle)
            | false => exact decide_eq_false (fun hh => by rw [Nat.ble_eq_true_of_le hh] at hle; cases hle)
          have rl : REs β (fltX (fun b => !seen.contains b) es) (ents.filter fun e => !seen.contains e.born) := flt_rx p3
          have ro : REs β old ((ents.filter fun e => !seen.contains e.born).filter fun e => decide (e.born < since)) := by
            have := flt_rx (p := fun b => Nat.blt b since) rl
            rw [hold] at this
            simpa only [d1] using this
          have rw' : REs β new ((ents.filter fun e => !seen.contains e.born).filter fun e => decide (e.born ≥ since)) := by
            have := flt_rx (p := fun b => Nat.ble since b) rl
            rw [hnew] at this
            simpa only [d2] using this
          generalize hO : ((ents.filter fun e => !seen.contains e.born).filter fun e => decide (e.born < since)) = O at ro
          generalize hW : ((ents.filter fun e => !seen.contains e.born).filter fun e => decide (e.born ≥ since)) = W at rw'
          have hOe : O.isEmpty = old.isEmpty := by have := res_empty ro; simpa using this
          obtain ⟨cand, hcand⟩ : ∃ cand : List (Option MapEntry), cand = (if O.isEmpty then [none] else []) ++ (O ++ W).map some := ⟨_, rfl⟩
          have hcl : cand.length = rs.length := by
            rw [hcand, ← h]
            have l1 := res_len ro
            have l2 := res_len rw'
            rw [hOe]
            cases old.isEmpty <;> simp [l1, l2]
          have hpos : 0 < cand.length := by rw [hcl]; exact List.length_pos_iff.2 hne
          -- what is drawn
          obtain ⟨j, w1, hj, hjl, hw1⟩ : ∃ j w1, (choose (.mapNext cand.length)).run P w = .ok j w1 ∧ j < cand.length ∧ (w1 = w ∨ w1 = w.drew) := by
            unfold choose Sem.run
            by_cases hf : (Question.mapNext cand.length).forced = true
            · rw [if_pos hf]; exact ⟨0, w, rfl, hpos, .inl rfl⟩
            · rw [if_neg hf]; exact ⟨_, w.drew, rfl, Nat.mod_lt _ hpos, .inr rfl⟩
          have hwh : w1.heap = w.heap := by rcases hw1 with e | e <;> rw [e] <;> rfl
          obtain ⟨rj, hrj⟩ : ∃ rj, rs[j]? = some rj := ⟨_, List.getElem?_eq_getElem (by omega)⟩
          obtain ⟨cj, hcj⟩ : ∃ cj, cand[j]? = some cj := ⟨_, List.getElem?_eq_getElem hjl⟩
          have hK := hK rj (List.mem_of_getElem? hrj)
          have hpre : ∀ v w', (match cj with
              | some e => do
                setObj b.1 (.mapIter (some g.1) since (seen.push e.born) ck)
                pure (Value.tuple #[.bool true, e.key, e.val])
              | none => (pure (Value.tuple #[.bool false]) : Sem Value)).run P w1 = .ok v w' → (Instr.next (a.eval x) false o.type).run P w = .ok v w' := fun v w' hv => by
            rw [g2]
            unfold Instr.next
            simp only [Sem.run_bind, hg1, Result.andThen_ok, hg2]
            rw [hG]
            have e1 : ((ents.toArray.filter fun e => !seen.contains e.born).filter fun e => decide (e.born < since)) = O.toArray := by rw [hleft, ← hO]; simp
            have e2 : ((ents.toArray.filter fun e => !seen.contains e.born).filter fun e => decide (e.born ≥ since)) = W.toArray := by rw [hleft, ← hW]; simp
            have e3 : ((if ((ents.toArray.filter fun e => !seen.contains e.born).filter fun e => decide (e.born < since)).isEmpty then #[none] else #[]) ++ (((ents.toArray.filter fun e => !seen.contains e.born).filter fun e => decide (e.born < since)) ++ ((ents.toArray.filter fun e => !seen.contains e.born).filter fun e => decide (e.born ≥ since))).map some : Array (Option MapEntry)) = cand.toArray := by
              rw [e1, e2, hcand]
              cases hb : O.isEmpty with
              | true => simp [hb]
              | false => simp [hb]
            simp only [Bool.false_eq_true, if_false, Sem.run_bind, Sem.run_pure, Result.andThen_ok]
            rw [e3]
            simp only [List.size_toArray, hj, Result.andThen_ok, List.getElem?_toArray, hcj]
            cases cj with
            | some e => exact hv
            | none => exact hv
          have hst1 : St N w0 D σ' a w1 := by
            rcases hw1 with e | e
            · rw [e]; exact hst
            · rw [e]
              refine ⟨hst.d, hst.s, ⟨hst.k.os, hst.k.tape, hst.k.output, hst.k.size, hst.k.block⟩, β, hF.o, hF.t, fun k => ?_, hF.i, hF.b, hF.d, hF.s⟩
              exact (hF.n k).ext (Sub.refl β) (fun _ _ _ => rfl)
          have hF1 : Fits w0 D σ' a w1 β := ⟨hF.o, hF.t, fun k => (hF.n k).ext (Sub.refl β) (fun _ _ _ => by rw [hwh]), hF.i, hF.b, hF.d, hF.s⟩
          have hcase : (cj = none ∧ rj = overR [m, q]) ∨ ∃ (e : MapEntry) (c : Value × XV × Nat), cj = some e ∧ rj = { x := .t [.v (.bool true), ofV 20 c.1, c.2.1], nw := [(m, .mi (some q) since (seen.push c.2.2) ck)], rn := [m, q] } ∧ e.key = c.1 ∧ Rx β c.2.1 e.val ∧ e.born = c.2.2 := by
            rw [hcand, hOe] at hcj
            rw [← h] at hrj
            have rapp := app_rx ro rw'
            cases hb : old.isEmpty with
            | true =>
              rw [hb] at hcj hrj
              cases j with
              | zero => simp at hcj hrj; exact .inl ⟨hcj.symm, hrj.symm⟩
              | succ j =>
                simp only [if_true, cond_true, List.singleton_append, List.getElem?_cons_succ, List.getElem?_map, Option.map_eq_some_iff] at hcj hrj
                obtain ⟨e, h1, h2⟩ := hcj
                obtain ⟨c, h3, h4⟩ := hrj
                obtain ⟨c', k1, k2, k3, k4⟩ := get_rx rapp h1
                rw [h3] at k1; injection k1 with k1; subst k1
                exact .inr ⟨e, c, h2.symm, h4.symm, k2, k3, k4⟩
            | false =>
              rw [hb] at hcj hrj
              simp only [Bool.false_eq_true, if_false, cond_false, List.nil_append, List.getElem?_map, Option.map_eq_some_iff] at hcj hrj
              obtain ⟨e, h1, h2⟩ := hcj
              obtain ⟨c, h3, h4⟩ := hrj
              obtain ⟨c', k1, k2, k3, k4⟩ := get_rx rapp h1
              rw [h3] at k1; injection k1 with k1; subst k1
              exact .inr ⟨e, c, h2.symm, h4.symm, k2, k3, k4⟩
          rcases hcase with ⟨rfl, rfl⟩ | ⟨e, c, rfl, rfl, k1, k2, k3⟩
          · refine owp_v (hexec (hpre _ _ rfl)) ?_
            exact hK _ _ (hst1.upd hF1 (Sub.refl β) rfl rfl rfl (Nat.le_refl _) (fun _ _ _ _ _ => rfl) (fun _ _ _ => rfl) (fun _ _ h => h) (fun m o h => by cases h) (fun m h => by cases h) (fun m o b h => by cases h) (fun m o b h => by cases h) hd (rx_t.2 ⟨[.bool false], rfl, Rxs.cons (rx_v.2 rfl) Rxs.nil⟩) [m, q] [])
          · have q2' : w1.heap[b.1]? = some (.mapIter (some g.1) since seen last) := by rw [hwh]; exact q2
            have hs := run_setObj (P := P) (o' := .mapIter (some g.1) since (seen.push e.born) ck) q2' (fun c e f => by simp)
            refine owp_v (hexec (hpre (.tuple #[.bool true, e.key, e.val]) { w1 with heap := w1.heap.setIfInBounds b.1 (.mapIter (some g.1) since (seen.push e.born) ck) } (by simp [hs]))) ?_
            refine hK _ _ (hst1.set (w' := { w1 with heap := w1.heap.setIfInBounds b.1 (.mapIter (some g.1) since (seen.push e.born) ck) }) (ob := .mi (some q) since (seen.push c.2.2) ck) hF1 (m := m) (by rw [hm']; rfl) g1 rfl rfl rfl rfl (by simp) (fun g hg hne => by simp [Array.getElem?_setIfInBounds_ne (Ne.symm hne)]) ⟨b, some g.1, g1, by rw [← k3]; exact set_obj_world (by rw [hwh]; exact hblt), g, q3, rfl⟩ hd (rx_t.2 ⟨[.bool true, e.key, e.val], rfl, Rxs.cons (rx_v.2 rfl) (Rxs.cons (by rw [← k1]; exact rx_ofV β 20 _) (Rxs.cons k2 Rxs.nil))⟩) [m, q])
      · cases h
    · cases h
  · cases h
/-! ### bytes and strings -/
def bytesX : List XV → Option (List UInt8)
  | [] => some []
  | .v (.int .u8 i) :: r => bif decide ((((UInt8.ofNat i.toNat).toNat : Nat) : Int) = i) then (match bytesX r with | some l => some (UInt8.ofNat i.toNat :: l) | none => none) else none
  | _ => none
theorem bytes_rx {β : Nat → Option (Nat × Nat)} : ∀ {cs : List XV} {us : List Value} {l : List UInt8}, bytesX cs = some l → Rxs β cs us → us = l.map fun b => .int .u8 b.toNat
  | [], us, l, h, hr => by
    have h' : some [] = some l := h
    injection h' with h'; subst h'
    rw [rxs_nil.1 hr]; rfl
  | c :: cs, us, l, h, hr => by
    obtain ⟨v, vs, rfl, h2, h3⟩ := rxs_cons.1 hr
    unfold bytesX at h
    split at h
    · rename_i heq; cases heq
    · rename_i i r heq
      injection heq with e1 e2
      subst e1 e2
      cases hc : decide ((((UInt8.ofNat i.toNat).toNat : Nat) : Int) = i) with
      | false => rw [hc] at h; cases h
      | true =>
        rw [hc, cond_true] at h
        cases hb : bytesX cs with
        | none => rw [hb] at h; cases h
        | some l' =>
          rw [hb] at h
          injection h with h; subst h
          rw [rx_v.1 h2, bytes_rx hb h3]
          simp only [List.map_cons]
          rw [of_decide_eq_true hc]
    · cases h
def xConv (P : Program) (n : Nat → XO) (k : Nat) (src dst : TypeId) (c : XV) : Option Res :=
  match P.underlying src, P.underlying dst, c with
  | some .string, some (.slice e), .v (.string s) => match P.underlying e with
    | some (.int .u8) => some { x := .s k 0 s.size none 1, nw := [(k, .c (s.data.toList.map fun b => .v (.int .u8 b.toNat)) e true)], fr := [k] }
    | _ => none
  | some (.slice e), some .string, .s m o l _ _ => match P.underlying e, n m with
    | some (.int .u8), .c cs _ _ => bif Nat.ble (o + l) cs.length then (match bytesX ((cs.drop o).take l) with
        | some b => some { x := .v (.string ⟨b.toArray⟩), rn := [m] }
        | none => none) else none
    | _, _ => none
  | _, _, _ => none
theorem conv_ok {o : Oper} {σ : AS} {src dst : TypeId} {x : Operand} {k : Nat} (ho : o.op = .convert src dst x) {c : XV} (hx : σ.ev x = some c) {r : Res} (h : xConv P σ.n k src dst c = some r) (hd : dOk o N = true) : OpS P N w0 D o σ (r.eff o) := by
  have mx : x ∈ o.op.operands := by simp [ho, Op.operands]
  have hexec : ∀ {a : Act} {w w' : World} {v : Value}, (convert src dst (a.eval x)).run P w = .ok v w' → (execOp a.eval o).run P w = .ok (.value v) w' := fun {a w w' v} h => by
    unfold execOp; simp only [ho, Sem.run_bind, h, Result.andThen_ok, Sem.run_pure]
  unfold xConv at h
  split at h
  · rename_i e s hs hd2
    split at h
    · rename_i he
      injection h with h; subst h
      refine opS_new hd fun σ' hok a w β hF => ?_
      have e1 := rx_v.1 (ev_get hok hF mx hx)
      have hrun := run_bytes_of_string (P := P) w src dst e s hs hd2 he
      have hge := grownCap_ge w s.size 0 e
      have hrow : bytesRow s (grownCap w s.size 0 e) = ((s.data.toList.map fun b => Value.int .u8 b.toNat) ++ List.replicate (grownCap w s.size 0 e - s.size) (Value.int .u8 0)).toArray := by
        unfold bytesRow
        apply Array.ext'
        simp
      have hsz : (bytesRow s (grownCap w s.size 0 e)).size = (s.data.toList.map fun b => Value.int .u8 b.toNat).length + (List.replicate (grownCap w s.size 0 e - s.size) (Value.int .u8 0)).length := by rw [hrow]; simp
      refine ⟨s.data.toList.map fun b => Value.int .u8 b.toNat, List.replicate (grownCap w s.size 0 e - s.size) (.int .u8 0), ((bytesRow s (grownCap w s.size 0 e)).size, (bytesRow s (grownCap w s.size 0 e)).size + 1), w.drew, _, rfl, rfl, rfl, rfl, hexec (by rw [e1, hrun, hrow]), fun j hj hh => by rw [hsz] at hh; omega, ?_, fun h => (by cases h), fun β' hβ hk => rx_s.2 ⟨_, _, hk, rfl, hge, fun c' hc => (by cases hc), fun _ => ?_⟩⟩
      · have : (s.data.toList.map fun b => XV.v (.int .u8 b.toNat)) = (s.data.toList.map fun b => Value.int .u8 b.toNat).map .v := by simp
        rw [this]
        exact rxs_v β _
      · simp only [List.length_map, List.length_replicate, Array.length_toList]
        have : s.data.size = s.size := rfl
        omega
    · cases h
  · rename_i e m o2 l cc zz hs hd2
    split at h
    · rename_i cs ty opn he hm
      cases hle : Nat.ble (o2 + l) cs.length with
      | false => rw [hle] at h; cases h
      | true =>
        rw [hle, cond_true] at h
        have hle' := Nat.le_of_ble_eq_true hle
        split at h
        · rename_i bs hbs
          injection h with h; subst h
          refine opS_still hd fun σ' hok a w β hF => ?_
          obtain ⟨b, q, g1, g2, _⟩ := rx_s.1 (ev_get hok hF mx hx)
          have hm' : σ'.n m = .c cs ty opn := by rw [hok.n m (by simp)]; exact hm
          have hR := hF.n m
          rw [hm'] at hR
          obtain ⟨us, vs, fz, q1, q2, q3, q4, q5⟩ := ro_c hR g1
          have hlen := q4.len
          have hb := bytes_rx hbs ((q4.drop o2).take l)
          have hbl : bs.length = l := by
            have := congrArg List.length hb
            simp at this; omega
          have hrun := run_convert_bytes_back (P := P) w src dst e ⟨b.1, o2, none⟩ q bs hs he hd2 (fun j hj => by
            rw [add_plain]
            have h1 : ((us.drop o2).take l)[j]? = some (.int .u8 (bs[j].toNat : Int)) := by rw [hb]; simp [List.getElem?_eq_getElem hj]
            exact cell_c q1 (take_drop_get h1))
          rw [hbl] at hrun
          exact ⟨_, hexec (by rw [g2]; exact hrun), rx_v.2 rfl⟩
        · cases h
    · cases h
  · cases h
end
end Go.Proofs.Ytobgdemhadlgnaa.Ev

namespace Go.Proofs.Ytobgdemhadlgnaa.Ev
open Go Go.RowKit
def modK (i : Nat) (k : Value) : List (Value × XV × Nat) → List (Value × XV × Nat)
  | [] => []
  | c :: r => match i with
    | 0 => (k, c.2) :: r
    | i + 1 => c :: modK i k r
theorem modK_rx {β : Nat → Option (Nat × Nat)} {k : Value} : ∀ {i : Nat} {cs : List (Value × XV × Nat)} {es : List MapEntry}, REs β cs es → REs β (modK i k cs) (es.modify i fun e => { e with key := k })
  | i, [], es, h => by
    have h' : es = [] := h
    subst h'
    cases i <;> exact rfl
  | 0, c :: cs, es, h => by
    obtain ⟨e, r, rfl, h2, h3, h4, h5⟩ := h
    exact ⟨{ e with key := k }, r, by simp, rfl, h3, h4, h5⟩
  | i + 1, c :: cs, es, h => by
    obtain ⟨e, r, rfl, h2, h3, h4, h5⟩ := h
    exact ⟨e, r.modify i fun e => { e with key := k }, by simp, h2, h3, h4, modK_rx h5⟩
def modV (i : Nat) (v : XV) : List (Value × XV × Nat) → List (Value × XV × Nat)
  | [] => []
  | c :: r => match i with
    | 0 => (c.1, v, c.2.2) :: r
    | i + 1 => c :: modV i v r
theorem modV_rx {β : Nat → Option (Nat × Nat)} {u : Value} {v : XV} (hv : Rx β v u) : ∀ {i : Nat} {cs : List (Value × XV × Nat)} {es : List MapEntry}, REs β cs es → REs β (modV i v cs) (es.modify i fun e => { e with val := u })
  | i, [], es, h => by
    have h' : es = [] := h
    subst h'
    cases i <;> exact rfl
  | 0, c :: cs, es, h => by
    obtain ⟨e, r, rfl, h2, h3, h4, h5⟩ := h
    exact ⟨{ e with val := u }, r, by simp, h2, hv, h4, h5⟩
  | i + 1, c :: cs, es, h => by
    obtain ⟨e, r, rfl, h2, h3, h4, h5⟩ := h
    exact ⟨e, r.modify i fun e => { e with val := u }, by simp, h2, h3, h4, modV_rx hv h5⟩
def bornX (s : Int) : List (Value × XV × Nat) → Nat → Option Nat
  | [], _ => none
  | c :: r, i => match decide ((c.2.2 : Int) = s) with
    | true => some i
    | false => bornX s r (i + 1)
theorem born_ok {β : Nat → Option (Nat × Nat)} {s : Int} : ∀ {cs : List (Value × XV × Nat)} {es : List MapEntry} {i j : Nat}, REs β cs es → bornX s cs i = some j → i ≤ j ∧ es.findIdx? (fun e => (e.born : Int) == s) = some (j - i)
  | [], es, i, j, h, hb => by cases hb
  | c :: cs, es, i, j, h, hb => by
    obtain ⟨e, r, rfl, h2, h3, h4, h5⟩ := h
    unfold bornX at hb
    rw [List.findIdx?_cons]
    split at hb
    · rename_i hd
      injection hb with hb; subst hb
      have hd := of_decide_eq_true hd
      rw [h4, if_pos (by simpa using hd)]
      exact ⟨Nat.le_refl _, by simp⟩
    · rename_i hd
      have hd := of_decide_eq_false hd
      obtain ⟨g1, g2⟩ := born_ok h5 hb
      rw [h4, if_neg (by simpa using hd), g2]
      exact ⟨by omega, by simp; omega⟩
def findB (s : Nat) : List (Value × XV × Nat) → Option (Value × XV)
  | [] => none
  | c :: r => bif Nat.beq c.2.2 s then some (c.1, c.2.1) else findB s r
theorem findB_ok {β : Nat → Option (Nat × Nat)} {s : Nat} : ∀ {cs : List (Value × XV × Nat)} {es : List MapEntry} {k : Value} {v : XV}, REs β cs es → findB s cs = some (k, v) → ∃ e, es.find? (fun e => e.born == s) = some e ∧ e.key = k ∧ Rx β v e.val
  | [], es, k, v, h, hb => by cases hb
  | c :: cs, es, k, v, h, hb => by
    obtain ⟨e, r, rfl, h2, h3, h4, h5⟩ := h
    unfold findB at hb
    cases hq : Nat.beq c.2.2 s with
    | true =>
      rw [hq, cond_true] at hb
      injection hb with hb
      injection hb with hb1 hb2
      have := Nat.eq_of_beq_eq_true hq
      exact ⟨e, by rw [List.find?_cons_of_pos (by rw [h4]; simpa using this)], h2.trans hb1, by rw [← hb2]; exact h3⟩
    | false =>
      rw [hq, cond_false] at hb
      obtain ⟨e', g1, g2, g3⟩ := findB_ok h5 hb
      refine ⟨e', ?_, g2, g3⟩
      rw [List.find?_cons_of_neg (by rw [h4]; simp; intro hh; rw [hh, Nat.beq_refl] at hq; cases hq)]
      exact g1
theorem key_at {β : Nat → Option (Nat × Nat)} : ∀ {cs : List (Value × XV × Nat)} {es : List MapEntry} {i : Nat}, REs β cs es → (es[i]?).map (·.born) = (cs[i]?).map (·.2.2)
  | [], es, i, h => by
    have h' : es = [] := h
    subst h'; rfl
  | c :: cs, es, i, h => by
    obtain ⟨e, r, rfl, h2, h3, h4, h5⟩ := h
    cases i with
    | zero => simp [h4]
    | succ i => simpa using key_at h5
theorem key_atI {β : Nat → Option (Nat × Nat)} {cs : List (Value × XV × Nat)} {es : List MapEntry} {i : Nat} (h : REs β cs es) : ((es[i]?).map fun e => (e.born : Int)).getD 0 = ((((cs[i]?).map (·.2.2)).getD 0 : Nat) : Int) := by
  rw [← key_at h]
  cases es[i]? <;> rfl
def xMapEnt (P : Program) (n : Nat → XO) (t : TypeId) (c : XV) (k : Value) : Option Res :=
  match P.underlying t, c with
  | some (.map kt et), .mr m => match n m, P.underlying kt with
    | .mp es ck, some td => match peel P 4000 (Instr.checkKey false 10000 kt k), findX P kt td k es with
      | some (), some (some (i, v)) => match peel P 100 (Instr.keyThatStays (((es[i]?).map (·.1)).getD k) k) with
        | some k' => some { x := .t [v, nInt (((es[i]?).map (·.2.2)).getD 0)], nw := [(m, .mp (modK i k' es) ck)], rn := [m] }
        | none => none
      | some (), some none => match (P.info? et).bind (·.zero) with
        | some z => some { x := .t [ofV 20 z, nInt ck], nw := [(m, .mp (es ++ [(k, ofV 20 z, ck)]) (ck + 1))], rn := [m] }
        | none => none
      | _, _ => none
    | _, _ => none
  | _, _ => none
def xEntSt (n : Nat → XO) (c s v : XV) : Option Res :=
  match c, s with
  | .mr m, .v (.int _ s) => match n m with
    | .mp es ck => match bornX s es 0 with
      | some i => some { x := .v undef, nw := [(m, .mp (modV i v es) ck)], rn := [m] }
      | none => none
    | _ => none
  | _, _ => none
def xEntry (n : Nat → XO) (c : XV) : Option Res :=
  match c with
  | .p m 0 => match n m with
    | .mi (some q) _ seen stepped => match seen.back?, n q with
      | some s, .mp es ck => bif Nat.beq ck stepped then (match findB s es with
        | some kv => some { x := .t [ofV 20 kv.1, kv.2], rn := [m, q] }
        | none => none) else none
      | _, _ => none
    | _ => none
  | _ => none
section
variable {P : Program} {N : Nat} {w0 : World} {D : Dom}
theorem mapEnt_ok {o : Oper} {σ : AS} {t : TypeId} {x y : Operand} (ho : o.op = .mapEntry t x y) {c : XV} {k : Value} (hx : σ.ev x = some c) (hy : fev σ.ev y = some k) {r : Res} (h : xMapEnt P σ.n t c k = some r) (hd : dOk o N = true) : OpS P N w0 D o σ (r.eff o) := by
  have mx : x ∈ o.op.operands := by simp [ho, Op.operands]
  have my : y ∈ o.op.operands := by simp [ho, Op.operands]
  have hkey : ∀ {e : Eff} {σ' : AS} {a : Act} {w : World} {β : Nat → Option (Nat × Nat)}, e.ok o σ σ' → Fits w0 D σ' a w β → a.eval y = k := fun {e σ' a w β} hok hF => by
    unfold fev at hy
    cases hyc : σ.ev y with
    | none => rw [hyc] at hy; cases hy
    | some d => rw [hyc] at hy; exact fl_rx 20 d k _ hy (ev_get hok hF my hyc)
  have hexec : ∀ {a : Act} {w w' : World} {v : Value}, (Instr.mapEntry t (a.eval x) (a.eval y)).run P w = .ok v w' → (execOp a.eval o).run P w = .ok (.value v) w' := fun {a w w' v} h => by
    unfold execOp; simp only [ho, Sem.run_bind, h, Result.andThen_ok, Sem.run_pure]
  unfold xMapEnt at h
  split at h
  · rename_i kt et m hu
    split at h
    · rename_i es ck td hm hkt
      have main : ∀ {r : Res} (xx : XV) (es' : List (Value × XV × Nat)) (ck' : Nat), r = { x := xx, nw := [(m, .mp es' ck')], rn := [m] } →
          (∀ (β : Nat → Option (Nat × Nat)) (ents : List MapEntry) (b : Nat) (w : World), REs β es ents → w.heap[b]? = some (.map ents.toArray ck) → ∃ ents' v, (Instr.mapEntry t (.map (some b)) k).run P w = .ok v { w with heap := w.heap.setIfInBounds b (.map (List.toArray ents') ck') } ∧ REs β es' ents' ∧ Rx β xx v) → OpS P N w0 D o σ (r.eff o) := fun {r} xx es' ck' hr hrun => by
        subst hr
        intro σ' hok a w hst K Q hK
        obtain ⟨β, hF⟩ := hst.f
        obtain ⟨b, g1, g2⟩ := rx_m.1 (ev_get hok hF mx hx)
        have hk := hkey hok hF
        have hm' : σ'.n m = .mp es ck := by rw [hok.n m (by simp [Res.eff])]; exact hm
        have hR := hF.n m
        rw [hm'] at hR
        obtain ⟨b', ents, q1, q2, q3⟩ := hR
        rw [g1] at q1; injection q1 with q1; subst q1
        have hlt : b.1 < w.heap.size := (Array.getElem?_eq_some_iff.1 q2).1
        obtain ⟨ents', v, e1, e2, e3⟩ := hrun β ents b.1 w q3 q2
        first | refine owp_v (hexec (by rw [g2, hk]; exact e1)) ?_ | refine owp_s (hexec (by rw [g2, hk]; exact e1)) ?_
        exact hK _ _ (hst.set (w' := { w with heap := w.heap.setIfInBounds b.1 (.map (List.toArray ents') ck') }) (ob := .mp es' ck') hF (m := m) (by rw [hm']; rfl) g1 rfl rfl rfl rfl (by simp) (fun g hg hne => by simp [Array.getElem?_setIfInBounds_ne (Ne.symm hne)]) ⟨b, ents', g1, set_obj_world hlt, e2⟩ hd e3 [m])
      split at h
      · rename_i i c0 hck hfd
        split at h
        · rename_i k' hst
          injection h with h
          refine main _ _ _ h.symm fun β ents b w q3 q2 => ?_
          obtain ⟨q, f1, f2⟩ := find_ok (P := P) hkt q3 hfd w
          cases q with
          | none => exact f2.elim
          | some q =>
            obtain ⟨j, u0⟩ := q
            obtain ⟨hij, hv0, _⟩ := f2
            subst hij
            refine ⟨ents.modify i fun e => { e with key := k' }, .tuple #[u0, goInt (((ents[i]?).map fun e => (e.born : Int)).getD 0)], ?_, modK_rx q3, rx_t.2 ⟨[u0, goInt (((ents[i]?).map fun e => (e.born : Int)).getD 0)], rfl, Rxs.cons hv0 (Rxs.cons (by rw [key_atI q3]; exact rx_v.2 rfl) Rxs.nil)⟩⟩
            have hg := run_getObj (P := P) q2 (fun c e f => by simp)
            have hc := peel_ok _ _ _ hck w
            have hs := run_setObj (P := P) (o' := .map (List.toArray (ents.modify i fun e => { e with key := k' })) ck) q2 (fun c e f => by simp)
            have hkt' := peel_ok _ _ _ hst w
            rw [← res_key q3] at hkt'
            unfold Instr.mapEntry
            have hl : (ents.toArray[i]?).map (·.key) = (ents[i]?).map (·.key) := by simp
            have hl2 : ((ents.toArray[i]?).map fun e => (e.born : Int)) = ((ents[i]?).map fun e => (e.born : Int)) := by simp
            simp only [Sem.run_bind, run_underlying hu, Result.andThen_ok, hg, hc, f1, hl, hkt']
            have hmm : ents.toArray.modify i (fun e => { e with key := k' }) = (List.toArray (ents.modify i fun e => { e with key := k' })) := by simp
            rw [hmm, hs]
            simp only [Result.andThen_ok, Sem.run_pure, hl2]
        · cases h
      · rename_i hck hfd
        split at h
        · rename_i z hz
          injection h with h
          obtain ⟨ie, z1, z2⟩ := info_zero hz
          refine main _ _ _ h.symm fun β ents b w q3 q2 => ?_
          obtain ⟨q, f1, f2⟩ := find_ok (P := P) hkt q3 hfd w
          cases q with
          | some q => exact f2.elim
          | none =>
            refine ⟨ents ++ [{ key := k, val := z, born := ck }], .tuple #[z, goInt ck], ?_, push_rx (rx_ofV β 20 z) q3, rx_t.2 ⟨[z, goInt ck], rfl, Rxs.cons (rx_ofV β 20 z) (Rxs.cons (rx_v.2 rfl) Rxs.nil)⟩⟩
            have hg := run_getObj (P := P) q2 (fun c e f => by simp)
            have hc := peel_ok _ _ _ hck w
            have hs := run_setObj (P := P) (o' := .map (List.toArray (ents ++ [{ key := k, val := z, born := ck }])) (ck + 1)) q2 (fun c e f => by simp)
            have hzv : (zeroValue et).run P w = .ok z w := by simp [zeroValue, typeInfo, z1, z2]
            unfold Instr.mapEntry
            simp only [Sem.run_bind, run_underlying hu, Result.andThen_ok, hg, hc, f1, hzv]
            have hmm : ents.toArray.push { key := k, val := z, born := ck } = (List.toArray (ents ++ [{ key := k, val := z, born := ck }])) := by simp
            rw [hmm, hs]
            simp only [Result.andThen_ok, Sem.run_pure]
        · cases h
      · cases h
    · cases h
  · cases h
theorem entSt_ok {o : Oper} {σ : AS} {t : TypeId} {x y z : Operand} (ho : o.op = .entryStore t x y z) {c s v : XV} (hx : σ.ev x = some c) (hy : σ.ev y = some s) (hz : σ.ev z = some v) {r : Res} (h : xEntSt σ.n c s v = some r) (hd : dOk o N = true) : OpS P N w0 D o σ (r.eff o) := by
  have mx : x ∈ o.op.operands := by simp [ho, Op.operands]
  have my : y ∈ o.op.operands := by simp [ho, Op.operands]
  have mz : z ∈ o.op.operands := by simp [ho, Op.operands]
  have hexec : ∀ {a : Act} {w w' : World}, (Instr.entryStore t (a.eval x) (a.eval y) (a.eval z)).run P w = .ok () w' → (execOp a.eval o).run P w = .ok .skip w' := fun {a w w'} h => by
    unfold execOp; simp only [ho, Sem.run_bind, h, Result.andThen_ok, Sem.run_pure]
  unfold xEntSt at h
  split at h
  · rename_i m k si
    split at h
    · rename_i es ck hm
      split at h
      · rename_i i hb
        injection h with h; subst h
        intro σ' hok a w hst K Q hK
        obtain ⟨β, hF⟩ := hst.f
        obtain ⟨b, g1, g2⟩ := rx_m.1 (ev_get hok hF mx hx)
        have g3 := rx_v.1 (ev_get hok hF my hy)
        have hm' : σ'.n m = .mp es ck := by rw [hok.n m (by simp [Res.eff])]; exact hm
        have hR := hF.n m
        rw [hm'] at hR
        obtain ⟨b', ents, q1, q2, q3⟩ := hR
        rw [g1] at q1; injection q1 with q1; subst q1
        have hlt : b.1 < w.heap.size := (Array.getElem?_eq_some_iff.1 q2).1
        obtain ⟨_, hf⟩ := born_ok q3 hb
        rw [Nat.sub_zero] at hf
        have hv := ev_get hok hF mz hz
        have hg := run_getObj (P := P) q2 (fun c e f => by simp)
        have hs := run_setObj (P := P) (o' := .map (List.toArray (ents.modify i fun e => { e with val := a.eval z })) ck) q2 (fun c e f => by simp)
        have e1 : (Instr.entryStore t (a.eval x) (a.eval y) (a.eval z)).run P w = .ok () { w with heap := w.heap.setIfInBounds b.1 (.map (List.toArray (ents.modify i fun e => { e with val := a.eval z })) ck) } := by
          rw [g2, g3]
          unfold Instr.entryStore
          have hf' : ents.toArray.findIdx? (fun e => (e.born : Int) == si) = some i := by simpa using hf
          have hmm : ents.toArray.modify i (fun e => { e with val := a.eval z }) = (List.toArray (ents.modify i fun e => { e with val := a.eval z })) := by simp
          simp only [Sem.run_bind, Result.andThen_ok, hg, asInt, asIntOf, Sem.run_pure, hf', hmm, hs]
        refine owp_s (hexec e1) ?_
        exact hK _ _ (hst.set (w' := { w with heap := w.heap.setIfInBounds b.1 (.map (List.toArray (ents.modify i fun e => { e with val := a.eval z })) ck) }) (ob := .mp (modV i v es) ck) hF (m := m) (by rw [hm']; rfl) g1 rfl rfl rfl rfl (by simp) (fun g hg hne => by simp [Array.getElem?_setIfInBounds_ne (Ne.symm hne)]) ⟨b, ents.modify i fun e => { e with val := a.eval z }, g1, set_obj_world hlt, modV_rx hv q3⟩ hd (rx_v.2 rfl) [m])
      · cases h
    · cases h
  · cases h
theorem entry_ok {o : Oper} {σ : AS} {x : Operand} (ho : o.op = .entry x) {c : XV} (hx : σ.ev x = some c) {r : Res} (h : xEntry σ.n c = some r) (hd : dOk o N = true) : OpS P N w0 D o σ (r.eff o) := by
  have mx : x ∈ o.op.operands := by simp [ho, Op.operands]
  unfold xEntry at h
  split at h
  · rename_i m
    split at h
    · rename_i q since seen last hm
      split at h
      · rename_i s es ck hback hq
        cases hck : Nat.beq ck last with
        | false => rw [hck] at h; cases h
        | true =>
          rw [hck, cond_true] at h
          split at h
          · rename_i kv hfb
            injection h with h; subst h
            refine opS_still hd fun σ' hok a w β hF => ?_
            obtain ⟨b, g1, g2⟩ := rx_p.1 (ev_get hok hF mx hx)
            have hm' : σ'.n m = .mi (some q) since seen last := by rw [hok.n m (by simp)]; exact hm
            have hq' : σ'.n q = .mp es ck := by rw [hok.n q (by simp)]; exact hq
            have hR := hF.n m
            rw [hm'] at hR
            obtain ⟨b', rr, q1, q2, g, q3, q4⟩ := hR
            rw [g1] at q1; injection q1 with q1; subst q1
            subst q4
            have hR2 := hF.n q
            rw [hq'] at hR2
            obtain ⟨g', ents, p1, p2, p3⟩ := hR2
            rw [q3] at p1; injection p1 with p1; subst p1
            have hg1 := run_getObj (P := P) q2 (fun c e f => by simp)
            have hg2 := run_getObj (P := P) p2 (fun c e f => by simp)
            obtain ⟨e, f1, f2, f3⟩ := findB_ok p3 hfb
            refine ⟨.tuple #[e.key, e.val], ?_, rx_t.2 ⟨[e.key, e.val], rfl, Rxs.cons (by rw [f2]; exact rx_ofV β 20 _) (Rxs.cons f3 Rxs.nil)⟩⟩
            have hl : last = ck := (Nat.eq_of_beq_eq_true hck).symm
            subst hl
            have f1' : ents.toArray.find? (fun e => e.born == s) = some e := by simpa using f1
            unfold execOp
            simp only [ho, g2, Instr.entry, Sem.run_bind, hg1, Result.andThen_ok, hback, hg2, bne_self_eq_false, Bool.false_eq_true, if_false, Sem.run_pure, f1']
          · cases h
      · cases h
    · cases h
  · cases h
end
end Go.Proofs.Ytobgdemhadlgnaa.Ev

namespace Go.Proofs.Ytobgdemhadlgnaa.Ev
open Go Go.RowKit
section
variable {P : Program} {N : Nat} {w0 : World} {D : Dom}
def xEqP (P : Program) (op : BinOp) (t : TypeId) (a b : XV) : Option Res :=
  match op, P.underlying t, a, b with
  | .neq, some (.pointer e), .p m o, .p m' o' => bif Nat.beq m m' && Nat.beq o o' && (P.info? e).isSome then some { x := .v (.bool false) } else none
  | .eql, some (.int _), .q, .v (.int .i64 0) => some { x := .v (.bool false) }
  | .neq, some (.int _), .q, .v (.int .i64 0) => some { x := .v (.bool true) }
  | _, _, _, _ => none
theorem eqP_ok {o : Oper} {σ : AS} {op : BinOp} {t t' : TypeId} {x y : Operand} (ho : o.op = .binOp op t x y t') {a b : XV} (hx : σ.ev x = some a) (hy : σ.ev y = some b) {r : Res} (h : xEqP P op t a b = some r) (hd : dOk o N = true) : OpS P N w0 D o σ (r.eff o) := by
  unfold xEqP at h
  split at h
  · rename_i e m oo m' oo' hu
    cases hc : (Nat.beq m m' && Nat.beq oo oo' && (P.info? e).isSome) with
    | false => rw [hc] at h; cases h
    | true =>
      rw [hc] at h
      injection h with h; subst h
      simp only [Bool.and_eq_true] at hc
      have c1 := Nat.eq_of_beq_eq_true hc.1.1
      have c2 := Nat.eq_of_beq_eq_true hc.1.2
      subst c1; subst c2
      obtain ⟨j, hj⟩ := Option.isSome_iff_exists.1 hc.2
      refine opS_still hd fun σ' hok ac w β hF => ?_
      obtain ⟨b1, h1, h2⟩ := rx_p.1 (ev_get hok hF (x := x) (by simp [ho, Op.operands]) hx)
      obtain ⟨b2, h3, h4⟩ := rx_p.1 (ev_get hok hF (x := y) (by simp [ho, Op.operands]) hy)
      have hb : b1 = b2 := by rw [h1] at h3; injection h3
      subst hb
      refine ⟨_, ?_, rx_v.2 rfl⟩
      have g2 : (eqGuard .neq t x y (.pointer (some ⟨b1.1, oo, none⟩)) (.pointer (some ⟨b1.1, oo, none⟩))).run P w = .ok () w := rfl
      unfold execOp
      simp only [ho, Sem.run_bind, h2, h4, g2, Result.andThen_ok, Lib.run_neq_ptr_same w _ hu hj, Sem.run_pure]
  · rename_i d hu
    injection h with h; subst h
    refine opS_still hd fun σ' hok ac w β hF => ?_
    obtain ⟨j, h1, h2⟩ := rx_q.1 (ev_get hok hF (x := x) (by simp [ho, Op.operands]) hx)
    have h3 := rx_v.1 (ev_get hok hF (x := y) (by simp [ho, Op.operands]) hy)
    have g2 : (eqGuard .eql t x y (.int .i64 j) (.int .i64 0)).run P w = .ok () w := rfl
    have g3 : (binOp .eql t (.int .i64 j) (.int .i64 0)).run P w = .ok (.bool false) w := by
      have hj : j ≠ 0 := by omega
      simp [binOp, Op.intCmp, hj]
    refine ⟨_, ?_, rx_v.2 rfl⟩
    unfold execOp
    simp only [ho, Sem.run_bind, h2, h3, g2, Result.andThen_ok, g3, Sem.run_pure]
  · rename_i d hu
    injection h with h; subst h
    refine opS_still hd fun σ' hok ac w β hF => ?_
    obtain ⟨j, h1, h2⟩ := rx_q.1 (ev_get hok hF (x := x) (by simp [ho, Op.operands]) hx)
    have h3 := rx_v.1 (ev_get hok hF (x := y) (by simp [ho, Op.operands]) hy)
    have g2 : (eqGuard .neq t x y (.int .i64 j) (.int .i64 0)).run P w = .ok () w := rfl
    have g3 : (binOp .neq t (.int .i64 j) (.int .i64 0)).run P w = .ok (.bool true) w := by
      have hj : j ≠ 0 := by omega
      simp [binOp, Op.intCmp, hj]
    refine ⟨_, ?_, rx_v.2 rfl⟩
    unfold execOp
    simp only [ho, Sem.run_bind, h2, h3, g2, Result.andThen_ok, g3, Sem.run_pure]
  · cases h
def xConvU (P : Program) (n : Nat → XO) (src dst : TypeId) (c : XV) : Option Res :=
  match P.underlying src, P.underlying dst, c with
  | some (.pointer t), some .unsafePointer, .p m o => match P.info? t, n m with
    | some i, .c cs ty opn => bif !Nat.beq i.size 0 && Nat.blt o cs.length then some { x := .p m o, rn := [m] } else none
    | _, _ => none
  | some .unsafePointer, some (.pointer u), .p m o => match P.info? u, n m with
    | some i, .c cs ty false => bif liesAt P P.depth ty (cs.length / P.cellsOf ty) o u 1 then some { x := .p m o, rn := [m] } else none
    | _, _ => none
  | _, _, _ => none
theorem convU_ok {o : Oper} {σ : AS} {src dst : TypeId} {x : Operand} (ho : o.op = .convert src dst x) {c : XV} (hx : σ.ev x = some c) {r : Res} (h : xConvU P σ.n src dst c = some r) (hd : dOk o N = true) : OpS P N w0 D o σ (r.eff o) := by
  have mx : x ∈ o.op.operands := by simp [ho, Op.operands]
  have hexec : ∀ {a : Act} {w w' : World} {v : Value}, (convert src dst (a.eval x)).run P w = .ok v w' → (execOp a.eval o).run P w = .ok (.value v) w' := fun {a w w' v} h => by
    unfold execOp; simp only [ho, Sem.run_bind, h, Result.andThen_ok, Sem.run_pure]
  unfold xConvU at h
  split at h
  · rename_i t m oo hs hd2
    split at h
    · rename_i i cs ty opn hi hm
      cases hc : (!Nat.beq i.size 0 && Nat.blt oo cs.length) with
      | false => rw [hc] at h; cases h
      | true =>
        rw [hc] at h
        injection h with h; subst h
        simp only [Bool.and_eq_true, Bool.not_eq_true'] at hc
        have c1 : i.size ≠ 0 := fun e => by rw [e] at hc; exact absurd hc.1 (by decide)
        have c2 : oo < cs.length := Nat.le_of_ble_eq_true hc.2
        refine opS_still hd fun σ' hok a w β hF => ?_
        have hr := ev_get hok hF mx hx
        obtain ⟨b, g1, g2⟩ := rx_p.1 hr
        have hm' : σ'.n m = .c cs ty opn := by rw [hok.n m (by simp)]; exact hm
        have hR := hF.n m
        rw [hm'] at hR
        obtain ⟨us, vs, fz, q1, q2, q3, q4, q5⟩ := ro_c hR g1
        have hlen := q4.len
        refine ⟨_, hexec (by
          rw [g2]
          exact Lib.run_to_unsafe w ⟨b.1, oo, none⟩ hs hd2 hi c1 (e := ty) (cells := us.length + vs.length) (by simp [World.shape?, q1]) (by show oo < _; omega)), rx_p.2 ⟨b, g1, rfl⟩⟩
    · cases h
  · rename_i u m oo hs hd2
    split at h
    · rename_i i cs ty hi hm
      cases hc : liesAt P P.depth ty (cs.length / P.cellsOf ty) oo u 1 with
      | false => rw [hc] at h; cases h
      | true =>
        rw [hc] at h
        injection h with h; subst h
        refine opS_still hd fun σ' hok a w β hF => ?_
        have hr := ev_get hok hF mx hx
        obtain ⟨b, g1, g2⟩ := rx_p.1 hr
        have hm' : σ'.n m = .c cs ty false := by rw [hok.n m (by simp)]; exact hm
        have hR := hF.n m
        rw [hm'] at hR
        obtain ⟨us, vs, fz, q1, q2, q3, q4, q5⟩ := ro_c hR g1
        have hlen := q4.len
        have hvs : vs = [] := q5 rfl
        subst hvs
        refine ⟨_, hexec (by
          rw [g2]
          exact Lib.run_from_unsafe w ⟨b.1, oo, none⟩ hs hd2 hi (e := ty) (cells := cs.length) (by simp [World.shape?, q1, hlen]) hc), rx_p.2 ⟨b, g1, rfl⟩⟩
    · cases h
  · cases h
/-- the block of the live name m holds nothing known any more -/
theorem St.kill {σ : AS} {a : Act} {w w' : World} {β : Nat → Option (Nat × Nat)} (hs : St N w0 D σ a w) (hF : Fits w0 D σ a w β) {m : Nat} {b : Nat × Nat} (hm : (σ.n m).live = true) (hb : β m = some b)
    (h1 : w'.os = w.os) (h2 : w'.tape = w.tape) (h3 : w'.output = w.output) (h4 : w.heap.size ≤ w'.heap.size) (h5 : ∀ g, g < w.heap.size → g ≠ b.1 → w'.heap[g]? = w.heap[g]?)
    {o : Oper} (hd : dOk o N = true) {x : XV} {v : Value} (hv : Rx β x v) (rn : List Nat) :
    St N w0 D ((⟨o.dst.map fun d => (d, x), [(m, .dead)], rn, []⟩ : Eff).ap σ) (a.put o.dst v) w' := by
  have hgm := nw1_self m .dead
  have hlt := lt_of hF
  refine hs.upd hF (Sub.refl β) h1 h2 h3 h4 (fun k g hk hlk hg => h5 g.1 (hlt k g hlk hg) (fun e => ?_)) (fun g hg hk => h5 g hg (fun e => hk m b hm hb e.symm)) (fun k _ hk => hk) (fun k o hk => ?_) (fun k hk => ?_) (fun k o g hk hlo hg => ?_) (fun k o g hk _ hg => ?_) hd hv rn []
  · have := hF.i k m g b hlk hm hg hb e
    rw [this, hgm] at hk; cases hk
  · obtain ⟨rfl, rfl⟩ := nw1 hk
    exact ⟨fun e => (by cases e), trivial⟩
  · obtain ⟨rfl, _⟩ := nw1 hk
    exact ⟨b, hb⟩
  · obtain ⟨rfl, rfl⟩ := nw1 hk
    cases hlo
  · obtain ⟨rfl, rfl⟩ := nw1 hk
    exact hF.b k g hm hg
theorem St.killF {σ : AS} {a : Act} {w w' : World} {β : Nat → Option (Nat × Nat)} (hs : St N w0 D σ a w) (hF : Fits w0 D σ a w β) {m : Nat} {b : Nat × Nat} (hm : (σ.n m).live = true) (hb : β m = some b)
    (h1 : w'.os = w.os) (h2 : w'.tape = w.tape) (h3 : w'.output = w.output) (h4 : w.heap.size ≤ w'.heap.size) (h5 : ∀ g, g < w.heap.size → g ≠ b.1 → w'.heap[g]? = w.heap[g]?)
    {o : Oper} (hd : dOk o N = true) {x : XV} {v : Value} (hv : Rx β x v) (rn : List Nat) :
    St N w0 D ((⟨o.dst.map fun d => (d, x), [(m, .dead)], rn, []⟩ : Eff).ap σ) (a.put o.dst v) w' ∧ Fits w0 D ((⟨o.dst.map fun d => (d, x), [(m, .dead)], rn, []⟩ : Eff).ap σ) (a.put o.dst v) w' β := by
  have hgm := nw1_self m .dead
  have hlt := lt_of hF
  refine hs.updE hF (Sub.refl β) h1 h2 h3 h4 (fun k g hk hlk hg => h5 g.1 (hlt k g hlk hg) (fun e => ?_)) (fun g hg hk => h5 g hg (fun e => hk m b hm hb e.symm)) (fun k _ hk => hk) (fun k o hk => ?_) (fun k hk => ?_) (fun k o g hk hlo hg => ?_) (fun k o g hk _ hg => ?_) hd hv rn []
  · have := hF.i k m g b hlk hm hg hb e
    rw [this, hgm] at hk; cases hk
  · obtain ⟨rfl, rfl⟩ := nw1 hk
    exact ⟨fun e => (by cases e), trivial⟩
  · obtain ⟨rfl, _⟩ := nw1 hk
    exact ⟨b, hb⟩
  · obtain ⟨rfl, rfl⟩ := nw1 hk
    cases hlo
  · obtain ⟨rfl, rfl⟩ := nw1 hk
    exact hF.b k g hm hg
def xSliceD (c : XV) : Option Res :=
  match c with
  | .s m o l _ _ => bif Nat.beq l 0 then none else some { x := .p m o }
  | .v (.slice none _ _) => some { x := .v (.pointer none) }
  | _ => none
theorem sliceD_ok {o : Oper} {σ : AS} {t : TypeId} {x : Operand} (ho : o.op = .call { callee := .builtin .unsafeSliceData, args := #[x], argTypes := #[t] }) {c : XV} (hx : σ.ev x = some c) {r : Res} (h : xSliceD c = some r) (hd : dOk o N = true) : OpS P N w0 D o σ (r.eff o) := by
  have mx : x ∈ o.op.operands := by simp [ho, Op.operands, Call.operands]
  unfold xSliceD at h
  split at h
  · rename_i m oo l cc z
    cases hl : Nat.beq l 0 with
    | true => rw [hl] at h; cases h
    | false =>
      rw [hl] at h
      injection h with h; subst h
      refine opS_still hd fun σ' hok a w β hF => ?_
      obtain ⟨b, k, g1, g2, g3, _⟩ := rx_s.1 (ev_get hok hF mx hx)
      have hl' : l ≠ 0 := fun e => by rw [e] at hl; exact absurd hl (by decide)
      refine ⟨_, ?_, rx_p.2 ⟨b, g1, rfl⟩⟩
      simp [execOp, ho, resolve, invoke, builtin, g2, Lib.run_unsafeSliceData_row w _ _ ⟨b.1, oo, none⟩ l k (by omega)]
  · injection h with h; subst h
    refine opS_still hd fun σ' hok a w β hF => ?_
    have e1 := rx_v.1 (ev_get hok hF mx hx)
    refine ⟨_, ?_, rx_v.2 rfl⟩
    simp [execOp, ho, resolve, invoke, builtin, e1, Lib.run_unsafeSliceData_nil]
  · cases h
def xUStr (P : Program) (n : Nat → XO) (pt : TypeId) (c d : XV) : Option Res :=
  match d with
  | .v (.int .i64 l) => match c with
    | .v (.pointer _) => bif decide (l = 0) then some { x := .v (.string .empty) } else none
    | .p m 0 => match n m with
      | .c cs ty _ => match P.underlying pt with
        | some (.pointer e) => bif Nat.beq e ty && decide (0 < l) && decide (l ≤ 9223372036854775807) && Nat.ble l.toNat cs.length && Nat.beq (P.cellsOf e) 1 then
          (match bytesX (cs.take l.toNat) with
          | some b => some { x := .v (.string ⟨b.toArray⟩), nw := [(m, .dead)], rn := [m] }
          | none => none) else none
        | _ => none
      | _ => none
    | _ => none
  | _ => none
theorem ustr_ok {o : Oper} {σ : AS} {pt it : TypeId} {x y : Operand} (ho : o.op = .call { callee := .builtin .unsafeString, args := #[x, y], argTypes := #[pt, it] }) {c d : XV} (hx : σ.ev x = some c) (hy : σ.ev y = some d) {r : Res} (h : xUStr P σ.n pt c d = some r) (hd : dOk o N = true) : OpS P N w0 D o σ (r.eff o) := by
  have mx : x ∈ o.op.operands := by simp [ho, Op.operands, Call.operands]
  have my : y ∈ o.op.operands := by simp [ho, Op.operands, Call.operands]
  unfold xUStr at h
  split at h
  · rename_i l
    split at h
    · rename_i q
      cases hl : decide (l = 0) with
      | false => rw [hl] at h; cases h
      | true =>
        rw [hl] at h
        injection h with h; subst h
        have hl' := of_decide_eq_true hl
        subst hl'
        refine opS_still hd fun σ' hok a w β hF => ?_
        have e1 := rx_v.1 (ev_get hok hF mx hx)
        have e2 := rx_v.1 (ev_get hok hF my hy)
        refine ⟨_, ?_, rx_v.2 rfl⟩
        simp [execOp, ho, resolve, invoke, builtin, e1, e2, Lib.run_unsafeString_none]
    · rename_i m
      split at h
      · rename_i cs ty opn hm
        split at h
        · rename_i e hp
          cases hc : (Nat.beq e ty && decide (0 < l) && decide (l ≤ 9223372036854775807) && Nat.ble l.toNat cs.length && Nat.beq (P.cellsOf e) 1) with
          | false => rw [hc] at h; cases h
          | true =>
            rw [hc, cond_true] at h
            simp only [Bool.and_eq_true, decide_eq_true_eq] at hc
            obtain ⟨⟨⟨⟨k1, k2⟩, k3⟩, k4⟩, k5⟩ := hc
            replace k1 := Nat.eq_of_beq_eq_true k1
            replace k4 := Nat.le_of_ble_eq_true k4
            replace k5 := Nat.eq_of_beq_eq_true k5
            subst k1
            split at h
            · rename_i bs hbs
              injection h with h; subst h
              intro σ' hok a w hs K Q hK
              obtain ⟨β, hF⟩ := hs.f
              obtain ⟨b, h1, h2⟩ := rx_p.1 (ev_get hok hF mx hx)
              have e2 := rx_v.1 (ev_get hok hF my hy)
              have hm' : σ'.n m = .c cs e opn := by rw [hok.n m (by simp [Res.eff])]; exact hm
              have hR := hF.n m
              rw [hm'] at hR
              obtain ⟨us, vs, fz, q1, q2, q3, q4, q5⟩ := ro_c hR h1
              have hlen := q4.len
              have hb := bytes_rx hbs (q4.take l.toNat)
              have hbl : bs.length = l.toNat := by
                have := congrArg List.length hb
                simp at this; omega
              have hl' : l = (bs.length : Int) := by omega
              have hrun := Lib.run_unsafeString_row w pt it o.type e hp k5 b.1 (us.length + vs.length) (by simp [World.shape?, q1]) bs (fun e => by rw [e] at hbl; simp at hbl; omega) (by omega) (by omega) (fun j u hj => by
                rw [add_plain]
                have h1 : ((us.drop 0).take l.toNat)[j]? = some (.int .u8 (u.toNat : Int)) := by rw [List.drop_zero, hb]; simp [hj]
                exact cell_c q1 (take_drop_get h1))
              have hex : (execOp a.eval o).run P w = .ok (.value (.string ⟨bs.toArray⟩)) (w.freeze ⟨b.1, 0, none⟩ bs.length) := by
                rw [hl'] at e2
                simp [execOp, ho, resolve, invoke, builtin, h2, e2, hrun]
              have hfr : ∀ g, g ≠ b.1 → (w.freeze ⟨b.1, 0, none⟩ bs.length).heap[g]? = w.heap[g]? := fun g hg => by
                unfold World.freeze
                split
                · rfl
                · simp only [Array.getElem?_modify]
                  rw [if_neg (fun e => hg e.symm)]
              refine owp_v (hex) ?_
              exact hK _ _ (hs.kill (w' := w.freeze ⟨b.1, 0, none⟩ bs.length) hF (m := m) (by rw [hm']; rfl) h1 (by unfold World.freeze; split <;> rfl) (by unfold World.freeze; split <;> rfl) (by unfold World.freeze; split <;> rfl) (by unfold World.freeze; split <;> simp) (fun g _ hne => hfr g hne) hd (rx_v.2 rfl) [m])
            · cases h
        · cases h
      · cases h
    · cases h
  · cases h
end
end Go.Proofs.Ytobgdemhadlgnaa.Ev

