/- Maps keyed by a structure: look-up, and a key that is not there yet. Conditions: as each theorem names them. -/
import Derived.Test.YtobgdemhadlgnaaAvD
set_option linter.unusedSimpArgs false
set_option linter.unusedVariables false
namespace Go.Proofs.Ytobgdemhadlgnaa.Av
open Go Go.RowKit
open Go.ChangeMaps (setBlock)
section
variable {P : Program} {N : Nat} {w0 : World} {U0 : Nat → Nat}
/-- a key that is asked for by equality: what is known of the key type -/
structure KeyK (P : Program) (kt : TypeId) (td : TypeDesc) (ok : Value → Prop) (same : Value → Value → Bool) : Prop where
  hu : P.underlying kt = some td
  hn : ∀ k x, Instr.sameNow td k x = none
  hc : ∀ k, ok k → ∀ e w, (Instr.checkKey e 10000 kt k).run P w = .ok () w
  he : ∀ k x, ok k → ok x → ∀ w, (Op.equal kt k x).run P w = .ok (same k x) w
  hr : ∀ k, ok k → same k k = true
def mfindK (same : Value → Value → Bool) (k : Value) : List (Value × DV) → Option DV
  | [] => none
  | x :: xs => bif same k x.1 then some x.2 else mfindK same k xs
theorem find_entsK {kt : TypeId} {td : TypeDesc} {ok : Value → Prop} {same : Value → Value → Bool} (hK : KeyK P kt td ok same) {w : World} {U : Nat → Nat} {k : Value} (hk : ok k) : ∀ (es : List MapEntry) (xs : List (Value × DV)) (i : Nat), Ents w U es xs → (∀ x ∈ xs, ok x.1) →
    (mfindK same k xs = none → (Instr.findAsking kt k es i).run P w = .ok none w) ∧ ∀ d, mfindK same k xs = some d → ∃ j v, (Instr.findAsking kt k es i).run P w = .ok (some (j, v)) w ∧ Rd w U v d
  | [], [], i, _, _ => ⟨fun _ => by simp [Instr.findAsking], fun d hd => by simp [mfindK] at hd⟩
  | [], x :: xs, i, h, _ => by have := h.1; simp at this
  | e :: es, [], i, h, _ => by have := h.1; simp at this
  | e :: es, x :: xs, i, h, ho => by
    obtain ⟨h1, h2⟩ := h.2 0 e x rfl rfl
    have ih := find_entsK hK hk es xs (i + 1) ⟨by have := h.1; simpa using this, fun j e x h3 h4 => h.2 (j + 1) e x (by simpa using h3) (by simpa using h4)⟩ (fun y hy => ho y (by simp [hy]))
    have hq := hK.he k e.key hk (by rw [h1]; exact ho x (by simp)) w
    rw [h1] at hq
    cases hs : same k x.1 with
    | true =>
      rw [hs] at hq
      refine ⟨fun h => by simp [mfindK, hs] at h, fun d hd => ?_⟩
      simp [mfindK, hs] at hd
      subst hd
      exact ⟨i, e.val, by simp [Instr.findAsking, h1, hq, Result.andThen], h2⟩
    | false =>
      rw [hs] at hq
      refine ⟨fun h => ?_, fun d hd => ?_⟩
      · simp [mfindK, hs] at h
        simp [Instr.findAsking, h1, hq, ih.1 h, Result.andThen]
      · simp [mfindK, hs] at hd
        obtain ⟨j, v, e1, e2⟩ := ih.2 d hd
        exact ⟨j, v, by simp [Instr.findAsking, h1, hq, e1, Result.andThen], e2⟩
theorem find_keyK {kt : TypeId} {td : TypeDesc} {ok : Value → Prop} {same : Value → Value → Bool} (hK : KeyK P kt td ok same) {w : World} {U : Nat → Nat} {k : Value} (hk : ok k) {es : List MapEntry} {xs : List (Value × DV)} (h : Ents w U es xs) (ho : ∀ x ∈ xs, ok x.1) :
    (mfindK same k xs = none → (Instr.findKey kt k es).run P w = .ok none w) ∧ ∀ d, mfindK same k xs = some d → ∃ j v, (Instr.findKey kt k es).run P w = .ok (some (j, v)) w ∧ Rd w U v d := by
  have hf := find_entsK hK hk es xs 0 h ho
  cases es with
  | nil =>
    cases xs with
    | nil => exact ⟨fun _ => by simp [Instr.findKey, run_underlying hK.hu, Instr.findNow, Result.andThen], fun d hd => by simp [mfindK] at hd⟩
    | cons x xs => have := h.1; simp at this
  | cons e es =>
    have hn : Instr.findNow td k (e :: es) 0 = none := by simp [Instr.findNow, hK.hn]
    refine ⟨fun hx => ?_, fun d hd => ?_⟩
    · simp [Instr.findKey, run_underlying hK.hu, hn, hf.1 hx, Result.andThen]
    · obtain ⟨j, v, e1, e2⟩ := hf.2 d hd
      exact ⟨j, v, by simp [Instr.findKey, run_underlying hK.hu, hn, e1, Result.andThen], e2⟩
theorem agg_flat {w : World} {U : Nat → Nat} {v : Value} {ks : List Value} (h : Rd w U v (.ag (ks.map DV.fl))) : v = .agg ks.toArray := by
  generalize hd : DV.ag (ks.map DV.fl) = d at h
  cases h with
  | ag vs cs h1 ho hc =>
    injection hd with hd
    subst hd
    congr 1
    apply Array.toList_inj.1
    apply List.ext_getElem?
    intro j
    have hl : vs.toList.length = ks.length := by simpa using h1
    by_cases hj : j < ks.length
    · have g1 : vs.toList[j]? = some vs.toList[j] := List.getElem?_eq_getElem (by omega)
      have g2 : (ks.map DV.fl)[j]? = some (DV.fl ks[j]) := by simp [hj]
      have g3 := hc j _ _ g1 g2
      generalize vs.toList[j] = u at g1 g3
      cases g3
      rw [g1]; simp [hj]
    · rw [List.getElem?_eq_none (by omega), List.getElem?_eq_none (by simp; omega)]
  | _ => cases hd
theorem key_newK {same : Value → Value → Bool} {w : World} {U : Nat → Nat} {k : Value} (hs : same k k = true) : ∀ {es : List MapEntry} {xs : List (Value × DV)}, Ents w U es xs → mfindK same k xs = none → ∀ e ∈ es, e.key ≠ k
  | [], _, _, _, e, he => by simp at he
  | a :: es, [], h, _, _, _ => by have := h.1; simp at this
  | a :: es, x :: xs, h, hr, e, he => by
    have hx := (h.2 0 a x rfl rfl).1
    have ht : Ents w U es xs := ⟨by have := h.1; simpa using this, fun i e x h1 h2 => h.2 (i + 1) e x (by simpa using h1) (by simpa using h2)⟩
    unfold mfindK at hr
    cases hb : same k x.1 with
    | true => rw [hb] at hr; cases hr
    | false =>
      rw [hb] at hr
      rcases List.mem_cons.1 he with rfl | he
      · intro e2; rw [hx] at e2; rw [e2, hs] at hb; cases hb
      · exact key_newK hs ht hr e he
theorem op_mapPushK {o : Oper} {σ : AS} {t : TypeId} {x y z : Operand} (ho : o.op = .mapUpdate t x y z) (hdn : o.dst = none) {kt et : TypeId} (ht : P.underlying t = some (.map kt et)) {td : TypeDesc} {ok : Value → Prop} {same : Value → Value → Bool} (hKk : KeyK P kt td ok same)
    {m : Nat} {xs : List (Value × DV)} (hx : σ.ev x = .ow m) (hm : σ.n m = .mp xs) {ks : List Value} (hy : σ.ev y = .d (.ag (ks.map DV.fl))) (hok' : ok (.agg ks.toArray)) (hxs : ∀ x ∈ xs, ok x.1) (hr : mfindK same (.agg ks.toArray) xs = none) {d : DV} (hz : σ.ev z = .d d) :
    OpS P N w0 U0 o σ ⟨none, [(m, .mp (xs ++ [(.agg ks.toArray, d)]))], [m], []⟩ := by
  obtain ⟨k, hke⟩ : ∃ k, k = Value.agg ks.toArray := ⟨_, rfl⟩
  rw [← hke] at hok' hr ⊢
  intro σ' hok a w hs K Q hK
  obtain ⟨F, hF⟩ := hs.f
  have hv : a.eval x = F.γ m := ev_get hok hF (x := x) (by simp [ho, Op.operands]) hx
  have hvy := ev_get hok hF (x := y) (by simp [ho, Op.operands]) hy
  have hkv : a.eval y = k := (agg_flat hvy).trans hke.symm
  have hvz : Rd w F.U (a.eval z) d := ev_get hok hF (x := z) (by simp [ho, Op.operands]) hz
  have hm' : σ'.n m = .mp xs := by rw [hok.n m (by simp)]; exact hm
  have hn := hF.n m
  rw [hm'] at hn
  obtain ⟨b, es, c, h1, h2, h3, h4, h5, h6, hst⟩ := hn
  have hlt : b < w.heap.size := (Array.getElem?_eq_some_iff.1 h4).1
  obtain ⟨g1, _⟩ := find_keyK hKk hok' h5 hxs
  have hrun : (execOp a.eval o).run P w = .ok .skip (setBlock w b (.map (es.push ⟨k, a.eval z, c⟩) (c + 1))) := by
    simp [execOp, ho, hv, h1, hkv, Instr.mapUpdate, run_underlying ht, MapKept.run_getObj_map h4, hKk.hc k hok', g1 hr, MapKept.run_setObj_map _ h4, Result.andThen, setBlock]
  have hE := ext_setBlock (w := w) (Obj.map (es.push ⟨k, a.eval z, c⟩) (c + 1)) h3
  have hents : Ents (setBlock w b (.map (es.push ⟨k, a.eval z, c⟩) (c + 1))) F.U (es.push ⟨k, a.eval z, c⟩).toList (xs ++ [(k, d)]) := by
    have hl := h5.1
    refine ⟨by simp [← hl], fun i e u he hu => ?_⟩
    rw [Array.toList_push] at he
    rcases Nat.lt_or_ge i xs.length with hi | hi
    · rw [List.getElem?_append_left (by omega)] at he
      rw [List.getElem?_append_left hi] at hu
      exact ⟨(h5.2 i e u he hu).1, (h5.2 i e u he hu).2.ext hE⟩
    · rw [List.getElem?_append_right (by omega)] at he
      rw [List.getElem?_append_right hi] at hu
      have hi0 : i - xs.length = 0 := by
        have := (List.getElem?_eq_some_iff.1 hu).1
        simp at this; omega
      rw [hi0] at hu
      rw [show i - es.toList.length = 0 by omega] at he
      simp at he hu
      subst he hu
      exact ⟨rfl, hvz.ext hE⟩
  have hfit := hF.setobj (a' := a) (m := m) (b := b) (by rw [hm']; rfl) h6 h3 (obj := .map (es.push ⟨k, a.eval z, c⟩) (c + 1)) (ob := .mp (xs ++ [(k, d)])) ⟨b, _, _, h1, h2, h3, setBlock_same _ hlt, hents, h6, MapKept.stamped_push hst (fun e he => key_newK (hKk.hr k hok') h5 hr e he)⟩
    (tw := none) (fun _ => rfl) (fun _ _ h => by cases h) [m]
  unfold Oper.wp
  rw [hrun]
  have : a.put o.dst undef = a := by rw [hdn]; rfl
  unfold Oper.upon
  simp only [this]
  exact hK _ _ ⟨hs.d, hs.s, below_setBlock hs.b h2 _, _, hfit⟩
/-- the entries with k's value d, by a test of equality of one's own -/
def mputK (same : Value → Value → Bool) (k : Value) (d : DV) : List (Value × DV) → List (Value × DV)
  | [] => [(k, d)]
  | x :: xs => bif same k x.1 then (k, d) :: xs else x :: mputK same k d xs
theorem find_setK {kt : TypeId} {td : TypeDesc} {ok : Value → Prop} {same : Value → Value → Bool} (hK : KeyK P kt td ok same) (hs : ∀ a b, ok a → ok b → same a b = true → a = b) {w : World} {U : Nat → Nat} {k : Value} (hk : ok k) {u : Value} {d : DV} (hd : Rd w U u d) : ∀ (es : List MapEntry) (xs : List (Value × DV)) (i : Nat) {d0 : DV}, Ents w U es xs → (∀ x ∈ xs, ok x.1) → mfindK same k xs = some d0 →
    ∃ j v e, (Instr.findAsking kt k es i).run P w = .ok (some (j, v)) w ∧ i ≤ j ∧ es[j - i]? = some e ∧ e.key = k ∧ Ents w U (es.modify (j - i) fun e => { e with key := k, val := u }) (mputK same k d xs)
  | [], [], i, d0, _, _, h => by simp [mfindK] at h
  | [], x :: xs, i, d0, h, _, _ => by have := h.1; simp at this
  | e :: es, [], i, d0, h, _, _ => by have := h.1; simp at this
  | e :: es, x :: xs, i, d0, h, ho, hf => by
    obtain ⟨h1, h2⟩ := h.2 0 e x rfl rfl
    have ht : Ents w U es xs := ⟨by have := h.1; simpa using this, fun j e x h3 h4 => h.2 (j + 1) e x (by simpa using h3) (by simpa using h4)⟩
    have hq := hK.he k e.key hk (by rw [h1]; exact ho x (by simp)) w
    rw [h1] at hq
    cases hb : same k x.1 with
    | true =>
      rw [hb] at hq
      have hkx : k = x.1 := hs k x.1 hk (ho x (by simp)) hb
      refine ⟨i, e.val, e, by simp [Instr.findAsking, h1, hq, Result.andThen], Nat.le_refl _, by rw [Nat.sub_self]; rfl, by rw [h1, hkx], ?_⟩
      rw [Nat.sub_self]
      unfold mputK
      rw [hb, cond_true]
      refine ⟨by simp [ht.1], fun q e' x' hq hx => ?_⟩
      cases q with
      | zero => simp at hq hx; subst hq hx; exact ⟨rfl, hd⟩
      | succ q => simp at hq hx; exact ht.2 q e' x' hq hx
    | false =>
      rw [hb] at hq
      have hf' : mfindK same k xs = some d0 := by simpa [mfindK, hb] using hf
      obtain ⟨j, v, e2, g1, g2, g3, g4, g5⟩ := find_setK hK hs hk hd es xs (i + 1) ht (fun y hy => ho y (by simp [hy])) hf'
      refine ⟨j, v, e2, by simp [Instr.findAsking, h1, hq, g1, Result.andThen], by omega, ?_, g4, ?_⟩
      · rw [show j - i = (j - (i + 1)) + 1 by omega]; simpa using g3
      · rw [show j - i = (j - (i + 1)) + 1 by omega]
        unfold mputK
        rw [hb, cond_false]
        refine ⟨by simpa using g5.1, fun q e' x' hq hx => ?_⟩
        cases q with
        | zero => simp at hq hx; subst hq hx; exact ⟨h1, h2⟩
        | succ q => simp at hq hx; exact g5.2 q e' x' hq hx
/-- 'm[k] = v' at a key, asked for by equality, that is there -/
theorem op_mapSetK {o : Oper} {σ : AS} {t : TypeId} {x y z : Operand} (ho : o.op = .mapUpdate t x y z) (hdn : o.dst = none) {kt et : TypeId} (ht : P.underlying t = some (.map kt et)) {td : TypeDesc} {ok : Value → Prop} {same : Value → Value → Bool} (hKk : KeyK P kt td ok same) (hsm : ∀ a b, ok a → ok b → same a b = true → a = b)
    {m : Nat} {xs : List (Value × DV)} (hx : σ.ev x = .ow m) (hm : σ.n m = .mp xs) {ks : List Value} (hy : σ.ev y = .d (.ag (ks.map DV.fl))) (hok' : ok (.agg ks.toArray)) (hxs : ∀ x ∈ xs, ok x.1) {d0 : DV} (hr : mfindK same (.agg ks.toArray) xs = some d0) {d : DV} (hz : σ.ev z = .d d)
    (hstay : ∀ w : World, (Instr.keyThatStays (.agg ks.toArray) (.agg ks.toArray)).run P w = .ok (.agg ks.toArray) w) :
    OpS P N w0 U0 o σ ⟨none, [(m, .mp (mputK same (.agg ks.toArray) d xs))], [m], []⟩ := by
  obtain ⟨k, hke⟩ : ∃ k, k = Value.agg ks.toArray := ⟨_, rfl⟩
  rw [← hke] at hok' hr hstay ⊢
  intro σ' hok a w hs K Q hK
  obtain ⟨F, hF⟩ := hs.f
  have hv : a.eval x = F.γ m := ev_get hok hF (x := x) (by simp [ho, Op.operands]) hx
  have hvy := ev_get hok hF (x := y) (by simp [ho, Op.operands]) hy
  have hkv : a.eval y = k := (agg_flat hvy).trans hke.symm
  have hvz : Rd w F.U (a.eval z) d := ev_get hok hF (x := z) (by simp [ho, Op.operands]) hz
  have hm' : σ'.n m = .mp xs := by rw [hok.n m (by simp)]; exact hm
  have hn := hF.n m
  rw [hm'] at hn
  obtain ⟨b, es, c, h1, h2, h3, h4, h5, h6, hst⟩ := hn
  have hlt : b < w.heap.size := (Array.getElem?_eq_some_iff.1 h4).1
  obtain ⟨j, u, e, g3, _, g5, g8, hput⟩ := find_setK hKk hsm hok' hvz es.toList xs 0 h5 hxs hr
  rw [Nat.sub_zero] at hput g5
  have g5 : es[j]? = some e := by simpa using g5
  have hfk : (Instr.findKey kt k es.toList).run P w = .ok (some (j, u)) w := by
    cases hes : es.toList with
    | nil =>
      obtain ⟨hj, _⟩ := Array.getElem?_eq_some_iff.1 g5
      have h0 : es.toList.length = 0 := by rw [hes]; rfl
      rw [Array.length_toList] at h0
      omega
    | cons e1 es1 =>
      rw [hes] at g3
      have hn : Instr.findNow td k (e1 :: es1) 0 = none := by simp [Instr.findNow, hKk.hn]
      simp [Instr.findKey, run_underlying hKk.hu, hn, g3, Result.andThen]
  have hrun : (execOp a.eval o).run P w = .ok .skip (setBlock w b (.map (es.modify j fun e => { e with key := k, val := a.eval z }) c)) := by
    simp [execOp, ho, hv, h1, hkv, Instr.mapUpdate, run_underlying ht, MapKept.run_getObj_map h4, hKk.hc k hok', hfk, g5, g8, hstay, MapKept.run_setObj_map _ h4, Result.andThen, setBlock]
  have hE := ext_setBlock (w := w) (Obj.map (es.modify j fun e => { e with key := k, val := a.eval z }) c) h3
  have hents : Ents (setBlock w b (.map (es.modify j fun e => { e with key := k, val := a.eval z }) c)) F.U (es.modify j fun e => { e with key := k, val := a.eval z }).toList (mputK same k d xs) := by
    rw [Array.toList_modify]
    exact hput.ext hE
  have hfit := hF.setobj (a' := a) (m := m) (b := b) (by rw [hm']; rfl) h6 h3 (obj := .map (es.modify j fun e => { e with key := k, val := a.eval z }) c) (ob := .mp (mputK same k d xs)) ⟨b, _, _, h1, h2, h3, setBlock_same _ hlt, hents, h6, MapKept.stamped_modify hst j _ (fun _ _ => rfl) (fun e' _ he' => by rw [he'] at g5; cases g5; exact g8.symm)⟩
    (tw := none) (fun _ => rfl) (fun _ _ h => by cases h) [m]
  unfold Oper.wp
  rw [hrun]
  have : a.put o.dst undef = a := by rw [hdn]; rfl
  unfold Oper.upon
  simp only [this]
  exact hK _ _ ⟨hs.d, hs.s, below_setBlock hs.b h2 _, _, hfit⟩
theorem op_lookup1K {o : Oper} {σ : AS} {t : TypeId} {x y : Operand} (ho : o.op = .lookup t x y false) {kt et : TypeId} (ht : P.underlying t = some (.map kt et)) {td : TypeDesc} {ok : Value → Prop} {same : Value → Value → Bool} (hKk : KeyK P kt td ok same)
    {z : Value} {sz bb : Nat} (hi : TI P et z sz bb) (hz : zOk z = true) {av : AV} (hx : σ.ev x = av) {xs : List (Value × DV)} {rn : List Nat} (hm : MapS σ av xs rn) {ks : List Value} (hy : σ.ev y = .d (.ag (ks.map DV.fl))) (hok' : ok (.agg ks.toArray)) (hxs : ∀ x ∈ xs, ok x.1) {r : Option DV} (hr : mfindK same (.agg ks.toArray) xs = r) {d : DV} (he : r.getD (zDV z) = d) (hd : dOk o N = true) :
    OpS P N w0 U0 o σ ⟨o.dst.map fun q => (q, .d d), [], rn, []⟩ := by
  obtain ⟨k, hke⟩ : ∃ k, k = Value.agg ks.toArray := ⟨_, rfl⟩
  rw [← hke] at hok' hr
  subst he
  intro σ' hok a w hs K Q hK
  obtain ⟨F, hF⟩ := hs.f
  obtain ⟨b, es, c, h1, h2, h3⟩ := hm.get hF (fun q hq => hok.n q hq) (ev_get hok hF (x := x) (by simp [ho, Op.operands]) hx)
  have hky := ev_get hok hF (x := y) (by simp [ho, Op.operands]) hy
  have hkv : a.eval y = k := (agg_flat hky).trans hke.symm
  obtain ⟨i, i1, i2, _, _⟩ := hi
  have hzv : (zeroValue et).run P w = .ok z w := by simp [zeroValue, typeInfo, i1, i2]
  obtain ⟨g1, g2⟩ := find_keyK hKk hok' h3 hxs
  have key : ∃ v, (execOp a.eval o).run P w = .ok (.value v) w ∧ Rd w F.U v (r.getD (zDV z)) := by
    cases r with
    | none =>
      refine ⟨z, ?_, rd_zero hz⟩
      simp [execOp, ho, Instr.lookup, h1, hkv, run_underlying ht, MapKept.run_getObj_map h2, hKk.hc k hok', g1 hr, hzv, Result.andThen]
    | some d =>
      obtain ⟨j, v, e1, e2⟩ := g2 d hr
      refine ⟨v, ?_, e2⟩
      simp [execOp, ho, Instr.lookup, h1, hkv, run_underlying ht, MapKept.run_getObj_map h2, hKk.hc k hok', e1, Result.andThen]
  obtain ⟨v, hrun, hv⟩ := key
  unfold Oper.wp
  rw [hrun]
  have hfit := hF.put (U' := F.U) (w' := w) hs.b.size ⟨fun _ _ => rfl, fun _ _ => rfl⟩ hd hs.s (av := .d (r.getD (zDV z))) (v := v) hv rn []
  exact hK _ _ ⟨by rw [put_defers]; exact hs.d, by rw [put_size]; exact hs.s, hs.b, _, hfit⟩
theorem op_buildA {o : Oper} {σ : AS} {t e : TypeId} {n : Nat} {parts : Array (Nat × Operand)} (ho : o.op = .build t parts) (hu : P.underlying t = some (.array n e)) {z : Value} {s b : Nat} (hi : TI P t z s b) {ze : Value} {se be : Nat} (hie : TI P e ze se be) (hz : Nat.beq z.cells.size s = true) (h1 : (z.cells.all fun u => u.oneCell') = true)
    {ds : List (Nat × DV)} {rns : List Nat} (hp : PtsS σ (fun i => some (i * se, se)) s parts.toList ds rns) (hd : dOk o N = true) : OpS P N w0 U0 o σ ⟨o.dst.map fun d => (d, .d (.ag (spl (zeroDV z) ds))), [], rns, []⟩ :=
  opS_still (P := P) (av := .d (.ag (spl (zeroDV z) ds))) hd fun σ' hok a w F hF => by
    obtain ⟨i, g1, g2, g3, g4⟩ := hi
    obtain ⟨ie, q1, q2, q3, q4⟩ := hie
    have hpts := hp.get hF hok.n (fun p hp' => ev_ok hok (by simp only [ho, Op.operands]; simpa using ⟨p.1, by simpa using hp'⟩))
    have hzs := Nat.eq_of_beq_eq_true hz
    have hrc : Rc w F.U z.cells.toList (zeroDV z) := ⟨⟨by simp [zeroDV], fun j u x hu hx => by
      unfold zeroDV at hx
      rw [List.getElem?_map, hu] at hx
      simp at hx
      subst hx
      exact .fl u⟩, fun u hu => Array.all_eq_true_iff_forall_mem.1 h1 u (by simpa using hu)⟩
    obtain ⟨cells', e1, e2, e3⟩ := fill_rc hpts z.cells (zeroDV z) hzs hrc
    refine ⟨.agg cells', ?_, .ag cells' _ (by have := e3.1.1; simpa using this) e3.2 e3.1.2⟩
    have hzv : (zeroValue t).run P w = .ok z w := by simp [zeroValue, typeInfo, g1, g2]
    have hse : (sizeOf e).run P w = .ok se w := by rw [run_sizeOf' q1, q3]
    have e1' : Instr.fill (fun i => some (i * se, se)) z.cells ((parts.map fun x => match x with | (i, x) => (i, a.eval x)).toList) = some cells' := by
      rw [Array.toList_map]; exact e1
    unfold execOp
    simp only [ho, Instr.build, Sem.run_bind, hzv, Result.andThen_ok, run_underlying hu, hse]
    rw [e1']
    rfl
theorem agg_get {w : World} {U : Nat → Nat} {v : Value} {cs : List DV} (h : Rd w U v (.ag cs)) : ∃ vs : Array Value, v = .agg vs ∧ vs.size = cs.length ∧ (∀ u ∈ vs.toList, u.oneCell' = true) ∧ ∀ (j : Nat) (u : Value) (x : DV), vs.toList[j]? = some u → cs[j]? = some x → Rd w U u x := by
  cases h with
  | ag vs cs h1 h2 h3 => exact ⟨vs, rfl, h1, h2, h3⟩
/-- a structure taken out of a structure -/
theorem op_fieldV {o : Oper} {σ : AS} {s : TypeId} {x : Operand} {f : Nat} (ho : o.op = .field s x f) {fs : Array Field} (hu : P.underlying s = some (.struct fs)) {fd : Field} (hf : fs[f]? = some fd) {d : TypeDesc} (hud : P.underlying fd.type = some d) (ha : aggD d = true) {zv : Value} {sz b : Nat} (hi : TI P fd.type zv sz b)
    {cs : List DV} (hx : σ.ev x = .d (.ag cs)) {off : Nat} (hoff : fd.offset = off) (hl : Nat.ble (off + sz) cs.length = true) (hd : dOk o N = true) : OpS P N w0 U0 o σ ⟨o.dst.map fun d => (d, .d (.ag ((cs.drop off).take sz))), [], [], []⟩ :=
  opS_still hd fun σ' hok a w F hF => by
    obtain ⟨i, q1, q2, q3, q4⟩ := hi
    obtain ⟨vs, hv, h1, h2, h3⟩ := agg_get (ev_get hok hF (x := x) (by simp [ho, Op.operands]) hx)
    have hle := Nat.le_of_ble_eq_true hl
    have e1 : ((vs.extract off (off + sz)).toList : List Value) = (vs.toList.drop off).take sz := by
      rw [Array.toList_extract, List.extract_eq_take_drop]
      congr 1
      omega
    refine ⟨.agg (vs.extract off (off + sz)), ?_, .ag _ _ ?_ (fun u hu' => ?_) (fun j u y hu' hy => ?_)⟩
    · simp [execOp, ho, hv, asAgg, Instr.field, run_underlying hu, hf, part, run_isAgg' hud, ha, run_sizeOf' q1, q3, hoff, Result.andThen]
    · simp only [Array.size_extract, List.length_take, List.length_drop]; omega
    · rw [e1] at hu'
      exact h2 u (List.mem_of_mem_drop (List.mem_of_mem_take hu'))
    · rw [e1] at hu'
      rw [List.getElem?_take] at hu' hy
      split at hy
      · rename_i hj
        rw [if_pos hj] at hu'
        rw [List.getElem?_drop] at hu' hy
        exact h3 _ u y hu' hy
      · cases hy
/-- a cell taken out of a structure -/
theorem op_fieldC {o : Oper} {σ : AS} {s : TypeId} {x : Operand} {f : Nat} (ho : o.op = .field s x f) {fs : Array Field} (hu : P.underlying s = some (.struct fs)) {fd : Field} (hf : fs[f]? = some fd) {d : TypeDesc} (hud : P.underlying fd.type = some d) (ha : aggD d = false)
    {cs : List DV} (hx : σ.ev x = .d (.ag cs)) {off : Nat} (hoff : fd.offset = off) {v : DV} (hv : cs[off]? = some v) (hd : dOk o N = true) : OpS P N w0 U0 o σ ⟨o.dst.map fun d => (d, .d v), [], [], []⟩ :=
  opS_still hd fun σ' hok a w F hF => by
    obtain ⟨vs, hv', h1, h2, h3⟩ := agg_get (ev_get hok hF (x := x) (by simp [ho, Op.operands]) hx)
    have hlt : off < cs.length := (List.getElem?_eq_some_iff.1 hv).1
    obtain ⟨u, hu'⟩ : ∃ u, vs.toList[off]? = some u := ⟨_, List.getElem?_eq_getElem (by simpa using (by omega : off < vs.size))⟩
    have hu2 : vs[off]? = some u := by simpa using hu'
    refine ⟨u, ?_, h3 off u v hu' hv⟩
    simp [execOp, ho, hv', asAgg, Instr.field, run_underlying hu, hf, part, run_isAgg' hud, ha, hoff, hu2, Result.andThen]
end
end Go.Proofs.Ytobgdemhadlgnaa.Av
