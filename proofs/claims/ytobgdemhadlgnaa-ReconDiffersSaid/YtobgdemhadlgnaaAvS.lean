/- A row of any data of the call's own is sorted in place by a function whose contract is known. Conditions: as each theorem names them. -/
import Derived.Test.YtobgdemhadlgnaaAvE
import Derived.Test.YtobgdemhadlgnaaAvM
import Derived.Shelf.SlSortCmp.InsertionK
import Derived.Lib.QuietBelow
set_option linter.unusedSimpArgs false
set_option linter.unusedVariables false
namespace Go.Proofs.Ytobgdemhadlgnaa.Av
open Go Go.RowKit Go.Sort
theorem tD_flat {α : Type} {f : α → List DV} : ∀ l : List α, (tD f l).flatten = ((l.map f).flatten).map OC.dv
  | [] => rfl
  | a :: l => by
    have ih := tD_flat (f := f) l
    show (f a).map OC.dv ++ (tD f l).flatten = _
    rw [ih]
    simp
/-- what the shelf's contract of the sort says, for every kind of row -/
structure SortG (P : Program) (f : FuncId) (z : Nat) : Prop where
  go : ∀ (β : Type) [Inhabited β] (enc : β → List Value), (∀ x, (enc x).length = z) → (∀ x, ∀ v ∈ enc x, v.oneCell' = true) → ∀ (cf : β → β → Int), SWO (ltOf cf) → ∀ (g : Nat) (cb : Array Value) (blk off cap : Nat) (d : Array β) (w : World), (∀ args w, (callFunc g args).run P w = .ok (.enter g args) w) → CmpLays P g cb enc z cf blk off d.size w → HoldsK enc z w blk off d → blk < w.heap.size → d.size < 4611686018427387904 →
    Calls P f #[.slice (some ⟨blk, off, none⟩) d.size cap, .func (.func g) #[] cb] w fun e w' => e = .returned (.tuple #[]) ∧ ∃ d' n os, PermIn 0 d.size d d' ∧ SortedIn (ltOf cf) 0 d.size d' ∧ w' = sortWorldK enc z w blk off n d' os
  none : ∀ (p : Option Addr) (cap : Nat) (fv : Value) (w : World), Calls P f #[.slice p 0 cap, fv] w fun e w' => e = .returned (.tuple #[]) ∧ w' = w
/-- f(s, g) sorts a row of any data in place by the closure g, whose captures read as caps -/
def SortOkD (P : Program) (f g : FuncId) (caps : List DV) {α : Type} (z : Nat) (fα : α → List DV) (p : α → Prop) (lt : α → α → Bool) : Prop :=
  (∀ (cv : Array Value) (U : Nat → Nat) (b c : Nat) (l : List α) (w : World) (cur : Array Value) (e : TypeId) (xs : List Value), (∀ x ∈ l, p x) → U b = 0 → Rds w U cv.toList caps → Rc w U xs ((l.map fα).flatten) → w.heap[b]? = some (.cells cur e (0, 0)) → l.length ≤ c → c ≤ maxLen → l.length < 4611686018427387904 → cur.size = c * z → cur.toList.take (l.length * z) = xs →
    Calls P f #[.slice (some ⟨b, 0, none⟩) l.length c, .func (.func g) #[] cv] w fun ex w' => ex = .returned (.tuple #[]) ∧ ∃ (l' : List α) (cur' : Array Value) (xs' : List Value), l'.Perm l ∧ l'.Pairwise (fun x y => lt y x = false) ∧
      w'.heap[b]? = some (.cells cur' e (0, 0)) ∧ cur'.size = cur.size ∧ cur'.toList.take (l.length * z) = xs' ∧ Rc w' U xs' ((l'.map fα).flatten) ∧ (∀ k, k < w.heap.size → k ≠ b → w'.heap[k]? = w.heap[k]?) ∧ w.heap.size ≤ w'.heap.size ∧ w'.os = w.os ∧ w'.tape = w.tape ∧ w'.output = w.output) ∧
  ∀ (p : Option Addr) (cap : Nat) (fv : Value) (w : World), Calls P f #[.slice p 0 cap, fv] w fun e w' => e = .returned (.tuple #[]) ∧ w' = w
theorem rc_rows {α : Type} {fα : α → List DV} {w : World} {U : Nat → Nat} : ∀ (l : List α) (xs : List Value), Rc w U xs ((l.map fα).flatten) → ∃ rs : List (List Value), rs.length = l.length ∧ rs.flatten = xs ∧ ∀ (i : Nat) (r : List Value) (x : α), rs[i]? = some r → l[i]? = some x → Rc w U r (fα x)
  | [], xs, h => ⟨[], rfl, by have := h.1.1; simp at this; simp [this], fun i r x h1 => by simp at h1⟩
  | a :: l, xs, h => by
    have hl := h.1.1
    simp only [List.map_cons, List.flatten_cons, List.length_append] at hl
    have h1 : Rc w U (xs.take (fα a).length) (fα a) := by
      refine ⟨⟨by simp; omega, fun j u x hu hx => ?_⟩, fun u hu => h.2 u (List.mem_of_mem_take hu)⟩
      have hj : j < (fα a).length := (List.getElem?_eq_some_iff.1 hx).1
      rw [List.getElem?_take_of_lt hj] at hu
      exact h.1.2 j u x hu (by simp only [List.map_cons, List.flatten_cons]; rw [List.getElem?_append_left hj]; exact hx)
    have h2 : Rc w U (xs.drop (fα a).length) ((l.map fα).flatten) := by
      refine ⟨⟨by rw [List.length_drop]; omega, fun j u x hu hx => ?_⟩, fun u hu => h.2 u (List.mem_of_mem_drop hu)⟩
      rw [List.getElem?_drop] at hu
      exact h.1.2 _ u x hu (by simp only [List.map_cons, List.flatten_cons]; rw [List.getElem?_append_right (by omega), show (fα a).length + j - (fα a).length = j by omega]; exact hx)
    obtain ⟨rs, q1, q2, q3⟩ := rc_rows l _ h2
    refine ⟨xs.take (fα a).length :: rs, by simp [q1], by simp [q2], fun i r x hr hx => ?_⟩
    cases i with
    | zero => simp at hr hx; subst hr hx; exact h1
    | succ i => exact q3 i r x (by simpa using hr) (by simpa using hx)
theorem ext_but {w w' : World} {U : Nat → Nat} {b : Nat} (hU : U b = 0) (h : ∀ k, k < w.heap.size → k ≠ b → w'.heap[k]? = w.heap[k]?) : Ext w U w' U := by
  refine ⟨fun b' off u hcl ho' => ?_, fun r es c hr hu => ?_⟩
  · have hne : b' ≠ b := fun h => by rw [h, hU] at ho'; omega
    have hlt' := World.block_lt_of_cell? w _ hcl
    exact ⟨(World.cell?_of_block (h b' hlt' hne)).trans hcl, ho'⟩
  · have hne : r ≠ b := fun h => by rw [h, hU] at hu; omega
    exact ⟨h r (Array.getElem?_eq_some_iff.1 hr).1 hne, rfl⟩
theorem sw_but {β : Type} [Inhabited β] {enc : β → List Value} {z : Nat} {w : World} {b off n : Nat} {d : Array β} {os : Array Obj} : ∀ k, k < w.heap.size → k ≠ b → (sortWorldK enc z w b off n d os).heap[k]? = w.heap[k]? := by
  intro k hk hne
  unfold sortWorldK putRowK
  rw [heap_grow_old _ _ (by simpa [putRow, mapBlock, Sort.ahead] using hk)]
  simp [putRow, mapBlock, Sort.ahead, Array.getElem?_modify, Ne.symm hne]
/-- a contract over data is what the sort asks of its comparison -/
theorem cmpLays_of {P : Program} {g : Nat} {caps : List DV} {β : Type} [Inhabited β] {enc : β → List Value} {fβ : β → List DV} {z : Nat} {cf : β → β → Int} (hc : ∀ x y : β, Ctr P g ([.ag (fβ x), .ag (fβ y)] ++ caps) (.d (.fl (.int .i64 (cf x y)))))
    {cv : Array Value} {U : Nat → Nat} {w : World} {b off size : Nat} (hU : U b = 0) (hcv : Rds w U cv.toList caps) (hr : ∀ x, Rc w U (enc x) (fβ x)) : CmpLays P g cv enc z cf b off size w := by
  intro m os dk hdk x y
  have hE : Ext w U (sortWorldK enc z w b off m dk os) U := ext_but hU sw_but
  have hag : ∀ x, Rd (sortWorldK enc z w b off m dk os) U (.agg (enc x).toArray) (.ag (fβ x)) := by
    intro x
    have h := (hr x).ext hE
    exact .ag _ _ (by simpa using h.1.1) (by simpa using h.2) (by simpa using h.1.2)
  have hargs : Rds (sortWorldK enc z w b off m dk os) U ([.agg (enc x).toArray, .agg (enc y).toArray] ++ cv.toList) ([.ag (fβ x), .ag (fβ y)] ++ caps) := Rds.append (.cons (hag x) (.cons (hag y) .nil)) (hcv.ext hE)
  have hcall := Mo.Calls.drawn (hc x y _ U _ hargs) (fun w' h => by obtain ⟨v, U', he, _⟩ := h; cases he)
  have ea : ([Value.agg (enc x).toArray, Value.agg (enc y).toArray] ++ cv.toList).toArray = #[Value.agg (enc x).toArray, Value.agg (enc y).toArray] ++ cv := by apply Array.ext'; simp
  rw [ea] at hcall
  refine hcall.mono ?_
  rintro e w' ⟨⟨v, U', rfl, hb, _, hv⟩, hd⟩
  have hv' : v = .int .i64 (cf x y) := rd_fl hv
  refine ⟨by rw [hv'], ?_⟩
  obtain ⟨p, hp⟩ := regrown_of_below hb
  have hpd : w'.drawn = p.d := by rw [hp]; rfl
  rw [hpd] at hd
  refine ⟨p.d - (sortWorldK enc z w b off m dk os).drawn, p.os, ?_⟩
  rw [hp]
  unfold redrawn World.drewN grow
  simp only [World.mk.injEq, true_and, and_true]
  omega
theorem sortOkD_of {P : Program} {f g : FuncId} {caps : List DV} {α : Type} {z : Nat} {fα : α → List DV} {cf : α → α → Int} (hs : SortG P f z) (hz : ∀ x, (fα x).length = z) (hO : SWO (ltOf cf)) (eg : ∀ args w, (callFunc g args).run P w = .ok (.enter g args) w)
    {p : α → Prop} (hc : ∀ x y : α, p x → p y → Ctr P g ([.ag (fα x), .ag (fα y)] ++ caps) (.d (.fl (.int .i64 (cf x y))))) : SortOkD P f g caps z fα p (ltOf cf) := by
  refine ⟨fun cv U b c l w cur e xs hpl hU hcv hrc h1 h2 h3 h62 h4 h5 => ?_, hs.none⟩
  have hblt : b < w.heap.size := (Array.getElem?_eq_some_iff.1 h1).1
  cases hl : l with
  | nil =>
    subst hl
    refine (hs.none _ _ _ w).mono ?_
    rintro ex w' ⟨rfl, rfl⟩
    exact ⟨rfl, [], cur, xs, List.Perm.refl _, List.Pairwise.nil, h1, rfl, h5, hrc, fun _ _ _ => rfl, Nat.le_refl _, rfl, rfl, rfl⟩
  | cons a0 l0 =>
    rw [← hl]
    have hn : 0 < l.length := by rw [hl]; simp
    obtain ⟨rs, q1, q2, q3⟩ := rc_rows l xs hrc
    have hdef : ∀ i, i % l.length < l.length := fun i => Nat.mod_lt _ hn
    let enc : Nat → List Value := fun i => rs[i % l.length]'(by rw [q1]; exact hdef i)
    let L : Nat → α := fun i => l[i % l.length]'(hdef i)
    have hr : ∀ i, Rc w U (enc i) (fα (L i)) := fun i => q3 (i % l.length) _ _ (List.getElem?_eq_getElem _) (List.getElem?_eq_getElem _)
    have hk : ∀ i, (enc i).length = z := fun i => by rw [(hr i).1.1, hz]
    have he1 : ∀ i, ∀ v ∈ enc i, v.oneCell' = true := fun i => (hr i).2
    let cf' : Nat → Nat → Int := fun i j => cf (L i) (L j)
    have hO' : SWO (ltOf cf') := ⟨fun x => hO.irrefl (L x), fun x y z => hO.trans (L x) (L y) (L z), fun x y z => hO.ntrans (L x) (L y) (L z)⟩
    have hd : (Array.range l.length).toList.map enc = rs := by
      apply List.ext_getElem?
      intro i
      rw [List.getElem?_map, Array.toList_range]
      rcases Nat.lt_or_ge i l.length with h | h
      · rw [List.getElem?_range h, List.getElem?_eq_getElem (by omega)]
        show some (rs[i % l.length]'_) = _
        congr 1
        congr 1
        exact Nat.mod_eq_of_lt h
      · rw [List.getElem?_eq_none (by simpa using h), List.getElem?_eq_none (by omega)]; rfl
    have hL : (List.range l.length).map L = l := by
      apply List.ext_getElem?
      intro i
      rw [List.getElem?_map]
      rcases Nat.lt_or_ge i l.length with h | h
      · rw [List.getElem?_range h, List.getElem?_eq_getElem h]
        show some (l[i % l.length]'_) = _
        congr 1
        congr 1
        exact Nat.mod_eq_of_lt h
      · rw [List.getElem?_eq_none (by simpa using h), List.getElem?_eq_none (by omega)]; rfl
    have hfl : (flatK enc z (Array.range l.length)).toList = xs := by rw [flatK_list hk, hd, q2]
    have hle : l.length * z ≤ cur.size := by rw [h4]; exact Nat.mul_le_mul_right _ h2
    have hH : HoldsK enc z w b 0 (Array.range l.length) := by
      intro j hj
      have hj' : j < l.length * z := by simpa using hj
      refine ⟨?_, frozen_of_row w b _ cur e h1⟩
      rw [Nat.zero_add, cell_of_row w b j cur e (0, 0) h1]
      have a1 := take_get h5 hj'
      rw [← hfl, Array.getElem?_toList, Array.getElem?_toList, Array.getElem?_eq_getElem hj] at a1
      rw [a1, ← getElem!_pos (flatK enc z (Array.range l.length)) j hj]
      rfl
    have hcm : CmpLays P g cv enc z cf' b 0 (Array.range l.length).size w := cmpLays_of (fβ := fun i => fα (L i)) (fun x y => hc (L x) (L y) (hpl _ (List.getElem_mem _)) (hpl _ (List.getElem_mem _))) hU hcv hr
    have hcall := hs.go Nat enc hk he1 cf' hO' g cv b 0 c (Array.range l.length) w eg hcm hH hblt (by simpa using h62)
    have e0 : (Array.range l.length).size = l.length := by simp
    rw [e0] at hcall
    refine hcall.mono ?_
    rintro ex w' ⟨rfl, d', n, os, hp, hso, rfl⟩
    obtain ⟨p1, _, p3⟩ := hp
    have hsz : d'.size = l.length := by simpa using p1
    have ex1 : (d'.extract 0 l.length).toList = d'.toList := by
      rw [Array.toList_extract]
      simp only [List.extract_eq_take_drop, List.drop_zero, Nat.sub_zero]
      exact List.take_of_length_le (by simp [hsz])
    have ex2 : ((Array.range l.length).extract 0 l.length).toList = List.range l.length := by
      rw [Array.toList_extract, Array.toList_range]
      simp [List.extract_eq_take_drop]
    rw [ex1, ex2] at p3
    have hE : Ext w U (sortWorldK enc z w b 0 n d' os) U := ext_but hU sw_but
    refine ⟨rfl, d'.toList.map L, putCells id 0 (flatK enc z d') cur, (d'.toList.map enc).flatten, by have := p3.map L; rw [hL] at this; exact this, ?_, ?_, by simp [putCells], ?_, ?_, sw_but, ?_, rfl, rfl, rfl⟩
    · rw [List.pairwise_map, List.pairwise_iff_getElem]
      intro i j hi hj hij
      have hj' : j < d'.size := by simpa using hj
      have := hso i j (Nat.zero_le _) hij (by omega)
      rw [getElem!_pos d' j hj', getElem!_pos d' i (by omega)] at this
      show ltOf cf' (d'.toList[j]) (d'.toList[i]) = false
      simpa using this
    · unfold sortWorldK putRowK
      rw [heap_grow_old _ _ (by simpa [putRow, mapBlock, Sort.ahead] using hblt)]
      simp [putRow, mapBlock, Sort.ahead, Array.getElem?_modify, h1, onCells]
    · have := take_putCells_id (F := flatK enc z d') (cur := cur) (by simp [hsz]; exact hle)
      rw [flatK_list hk d', size_flatK, hsz] at this
      exact this
    · refine Rc.ext hE ?_
      generalize d'.toList = ds
      induction ds with
      | nil => exact ⟨Rds.nil, fun u h => by simp at h⟩
      | cons i ds ih => exact (hr i).append ih
    · unfold sortWorldK putRowK grow
      simp [putRow, mapBlock, Sort.ahead]
section
variable {P : Program} {N : Nat} {w0 : World} {U0 : Nat → Nat}
/-- the name of an own row -/
def owOf : AV → Option Nat
  | .ow m => some m
  | .pw m _ => some m
  | _ => none
theorem owOf_get {w : World} {F : Fr} {x : AV} {v : Value} {m : Nat} (h : Rav w F x v) (hx : owOf x = some m) : v = F.γ m := by
  cases x with
  | ow m' => simp only [owOf, Option.some.injEq] at hx; subst hx; exact h
  | pw m' y => simp only [owOf, Option.some.injEq] at hx; subst hx; obtain ⟨h1, h2⟩ := h; exact h1.trans h2
  | _ => simp [owOf] at hx
theorem rg_sortE {d : Nat} {caps : List DV} {ops : Array Oper} {o : Oper} {k : Nat} {L : List (Nat × AV)} {M : List (Nat × Ob)} {R : AS → Prop} {f g : FuncId} {s cf : Operand} {ats : Array TypeId} {α : Type} {z : Nat} {fα : α → List DV} {lt : α → α → Bool} {l : List α} {m0 : Nat} {e : TypeId}
    (ho : ops[k]? = some o) (hg : o.guard = none) (hop : o.op = .call { callee := .value (.func f), args := #[s, cf], argTypes := ats }) (hdst : o.dst = some d) (hd : dOk o N = true) {fn : Func} (hf : P.funcs[f]? = some fn) (hn : (fn.name == "runtime.NumGoroutine") = false) (hb : fn.body.isNone = false)
    (hs : owOf ((SS L M).ev s) = some m0) (hm : ln M m0 = .tr e z (tD fα l)) (hcf : (SS L M).ev cf = .d (.fn g caps)) (hz : ∀ x, (fα x).length = z) {p : α → Prop} (hpl : ∀ x ∈ l, p x) (hok : SortOkD P f g caps z fα p lt) (h62 : l.length < 4611686018427387904)
    (h : ∀ l' : List α, l'.Perm l → l'.Pairwise (fun x y => lt y x = false) → RG P N w0 U0 ops (k + 1) (SS ((d, .tu []) :: L) ((m0, .tr e z (tD fα l')) :: M)) R) : RG P N w0 U0 ops k (SS L M) R := by
  refine ⟨fun a w hst Q hQ => ?_⟩
  have hlt : k < ops.size := (Array.getElem?_eq_some_iff.1 ho).1
  have e1 : ((List.range (ops.size - k)).map (· + k)) = k :: ((List.range (ops.size - (k + 1))).map (· + (k + 1))) := by
    rw [show ops.size - k = (ops.size - (k + 1)) + 1 by omega, List.range_succ_eq_map]
    simp only [List.map_cons, Nat.zero_add, List.map_map, List.cons.injEq, true_and]
    apply List.map_congr_left
    intro x _
    show x + 1 + k = x + (k + 1)
    omega
  rw [e1, wpOps_cons]
  unfold wpOp
  rw [ho]
  simp only
  have hw : Region.wanted o (yielded ops a.tmps) = true := by simp [Region.wanted, hg]
  rw [if_pos hw]
  refine .inl ?_
  obtain ⟨F, hF⟩ := hst.f
  have h1 : a.eval s = F.γ m0 := owOf_get (hF.ev s) hs
  have h2 : Rd w F.U (a.eval cf) (.fn g caps) := by have := hF.ev cf; rw [hcf] at this; exact this
  obtain ⟨cv, h2', hcv⟩ : ∃ cv : Array Value, a.eval cf = .func (.func g) #[] cv ∧ Rds w F.U cv.toList caps := by
    generalize a.eval cf = v at h2
    cases h2 with
    | fn f vs cs hl hc => exact ⟨vs, rfl, ⟨by simpa using hl, hc⟩⟩
  have hnm : (SS L M).n m0 = .tr e z (tD fα l) := hm
  have hlive : ((SS L M).n m0).live = true := by rw [hnm]; rfl
  have hob := hF.n m0
  rw [hnm] at hob
  obtain ⟨xs, T, g1, g2, g3, g4, g5⟩ := hob
  have hlen : (tD fα l).length = l.length := by simp [tD]
  rw [hlen] at g1
  rw [tD_flat] at g2
  obtain ⟨hrc, hno⟩ := Tcs.noDv g2
  obtain ⟨g1a, g1b⟩ := g1
  have hex : ∀ v, F.γ m0 = v → (execOp a.eval o).run P w = .ok (.enter f #[v, .func (.func g) #[] cv]) w := by
    intro v hv
    unfold execOp
    simp only [hop, resolve, Act.eval, Deferred.ofValue, invoke, Sem.run_bind, Sem.run_pure, Result.andThen_ok]
    have e1' : (#[] ++ Array.map a.eval #[s, cf] ++ #[] : Array Value) = #[v, .func (.func g) #[] cv] := by
      apply Array.ext'
      simp [h1, h2', hv]
    rw [e1']
    exact run_call hf hn hb _ w
  rcases g1b with ⟨hv, h0⟩ | ⟨b, cap, cur, q1, q2, q3, q4, q5, q6, q7⟩
  · have hl0 : l = [] := List.length_eq_zero_iff.1 h0
    unfold Oper.wp
    rw [hex _ hv, Oper.upon_enter]
    refine Calls.mono (hok.2 none 0 _ w) ?_
    rintro ex w' ⟨rfl, rfl⟩
    have key : ∀ q (o' : Ob), nwGet [(m0, Ob.tr e z (tD fα l))] q = some o' → q = m0 ∧ o' = .tr e z (tD fα l) := by
      intro q o' hq
      unfold nwGet at hq
      cases hb' : Nat.beq m0 q with
      | true => rw [hb'] at hq; exact ⟨(Nat.eq_of_beq_eq_true hb').symm, (Option.some.inj hq).symm⟩
      | false => rw [hb'] at hq; cases hq
    have keyn : ∀ q, nwGet [(m0, Ob.tr e z (tD fα l))] q = none → q ≠ m0 := by
      intro q hq hqm
      subst hqm
      unfold nwGet at hq
      rw [Nat.beq_refl] at hq; cases hq
    have hfit := hF.big (F' := F) (w' := w') (tw := o.dst.map fun d => (d, AV.tu [])) (nw := [(m0, .tr e z (tD fα l))]) Ext.rfl (fun _ _ => rfl) (fun q hq => ⟨rfl, rfl, fun _ => Iff.rfl⟩) (fun q hq => .inl ⟨rfl, rfl⟩)
      (fun q hl hq b' hb' hlt' => ⟨rfl, rfl⟩)
      (fun q o' hq => by
        obtain ⟨rfl, rfl⟩ := key q o' hq
        have := hF.n q
        rw [hnm] at this; exact this)
      (fun q o' q' b' hq hl hq' hl' hb' hb2 => by
        obtain ⟨rfl, rfl⟩ := key q o' hq
        exact keyn q' hq' (hF.i q' q b' hl' hlive hb2 hb'))
      (fun q o' q' o2 b' hq hl hq' hl' hb' hb2 => by
        obtain ⟨rfl, _⟩ := key q o' hq
        obtain ⟨rfl, _⟩ := key q' o2 hq'
        rfl)
      (a' := a.put o.dst (.tuple #[])) (hta_put hd hst.s (.tu []) (.tuple #[])).1 (fun d v h => by
        obtain ⟨rfl, h3⟩ := (hta_put hd hst.s (.tu []) (.tuple #[])).2 d v h
        rw [h3]
        exact ⟨#[], rfl, Rds.nil⟩) [] []
    rw [ap_ss] at hfit
    rw [hdst] at hfit ⊢
    exact (h l (List.Perm.refl _) (by rw [hl0]; exact List.Pairwise.nil)).go _ w' ⟨by rw [put_defers]; exact hst.d, by rw [put_size]; exact hst.s, hst.b, F, hfit⟩ Q hQ
  · have hcall := hok.1 cv F.U b cap l w cur e xs hpl (g4 b (by rw [q1]; rfl)).1 hcv hrc q3 q4 q5 h62 q6 q7
    unfold Oper.wp
    rw [hex _ q1, Oper.upon_enter]
    refine Calls.mono hcall ?_
    rintro ex w' ⟨rfl, l', cur', xs', p1, p2, c1, c2, c3, hrc', c4, c5, c6, c7, c8⟩
    have hown : (F.γ m0).ownBlock = some b := by rw [q1]; rfl
    obtain ⟨gU, gT⟩ := g4 b hown
    have hll : l'.length = l.length := p1.length_eq
    have hE : Ext w F.U w' F.U := by
      refine ⟨fun b' off u hcl ho' => ?_, fun r es c hr hu => ?_⟩
      · have hne : b' ≠ b := fun h => by rw [h, gU] at ho'; omega
        have hlt' := World.block_lt_of_cell? w _ hcl
        exact ⟨(World.cell?_of_block (c4 b' hlt' hne)).trans hcl, ho'⟩
      · have hne : r ≠ b := fun h => by rw [h, gU] at hu; omega
        exact ⟨c4 r (Array.getElem?_eq_some_iff.1 hr).1 hne, rfl⟩
    have hlen' : (tD fα l').length = l.length := by simp [tD, hll]
    have hrow : w'.ownsRow w0.heap.size e z (F.γ m0) (tD fα l').length xs' := by
      rw [hlen', q1]
      refine ⟨?_, .inr ⟨b, cap, cur', rfl, q2, c1, q4, q5, by rw [c2, q6], c3⟩⟩
      have hfl1 : ∀ l : List α, (l.map fα).flatten.length = l.length * z := by
        intro l
        induction l with
        | nil => simp
        | cons x l ih => simp only [List.map_cons, List.flatten_cons, List.length_append, hz, ih, List.length_cons]; rw [Nat.add_mul]; omega
      rw [hrc'.1.1, hfl1, hll]
    have key : ∀ q (o' : Ob), nwGet [(m0, Ob.tr e z (tD fα l'))] q = some o' → q = m0 ∧ o' = .tr e z (tD fα l') := by
      intro q o' hq
      unfold nwGet at hq
      cases hb' : Nat.beq m0 q with
      | true => rw [hb'] at hq; exact ⟨(Nat.eq_of_beq_eq_true hb').symm, (Option.some.inj hq).symm⟩
      | false => rw [hb'] at hq; cases hq
    have keyn : ∀ q, nwGet [(m0, Ob.tr e z (tD fα l'))] q = none → q ≠ m0 := by
      intro q hq hqm
      subst hqm
      unfold nwGet at hq
      rw [Nat.beq_refl] at hq; cases hq
    have hfit := hF.big (F' := F) (w' := w') (tw := o.dst.map fun d => (d, AV.tu [])) (nw := [(m0, .tr e z (tD fα l'))]) hE (fun _ _ => rfl) (fun q hq => ⟨rfl, rfl, fun _ => Iff.rfl⟩) (fun q hq => .inl ⟨rfl, rfl⟩)
      (fun q hl hq b' hb' hlt' => by
        have hne : b' ≠ b := fun hh => by
          subst hh
          exact keyn q hq (hF.i q m0 b' hl hlive hb' ((g5 b').2 (.inl hown)))
        exact ⟨c4 b' hlt' hne, rfl⟩)
      (fun q o' hq => by
        obtain ⟨rfl, rfl⟩ := key q o' hq
        refine ⟨xs', fun _ _ => False, hrow, by rw [tD_flat]; exact Tcs.ofRc hrc', fun r hr => ?_, fun b' hb' => ⟨(g4 b' hb').1, fun _ h => h⟩, fun b' => ?_⟩
        · obtain ⟨y, hy, rfl⟩ := List.mem_map.1 hr
          obtain ⟨x, _, rfl⟩ := List.mem_map.1 hy
          rw [List.length_map, hz]
        · rw [g5 b']
          constructor
          · rintro (h | ⟨i, h⟩)
            · exact .inl h
            · exact absurd h (hno i b')
          · rintro (h | ⟨i, h⟩)
            · exact .inl h
            · exact h.elim)
      (fun q o' q' b' hq hl hq' hl' hb' hb2 => by
        obtain ⟨rfl, rfl⟩ := key q o' hq
        exact keyn q' hq' (hF.i q' q b' hl' hlive hb2 hb'))
      (fun q o' q' o2 b' hq hl hq' hl' hb' hb2 => by
        obtain ⟨rfl, _⟩ := key q o' hq
        obtain ⟨rfl, _⟩ := key q' o2 hq'
        rfl)
      (a' := a.put o.dst (.tuple #[])) (hta_put hd hst.s (.tu []) (.tuple #[])).1 (fun d v h => by
        obtain ⟨rfl, h3⟩ := (hta_put hd hst.s (.tu []) (.tuple #[])).2 d v h
        rw [h3]
        exact ⟨#[], rfl, Rds.nil⟩) [] []
    rw [ap_ss] at hfit
    have hbel : Below w0.heap.size w0 w' := by
      have hb0 := hst.b
      exact ⟨c6.trans hb0.os, c7.trans hb0.tape, c8.trans hb0.output, Nat.le_trans hb0.size c5, fun i hi => (c4 i (by have := hb0.size; omega) (by omega)).trans (hb0.block i hi)⟩
    rw [hdst] at hfit ⊢
    exact (h l' p1 p2).go _ w' ⟨by rw [put_defers]; exact hst.d, by rw [put_size]; exact hst.s, hbel, F, hfit⟩ Q hQ
end
end Go.Proofs.Ytobgdemhadlgnaa.Av
