/- Two calls one after another, the first hands the second a closure over a new block: slices.Sorted(maps.Keys(m)). Conditions: as each theorem names them. -/
import Derived.Test.YtobgdemhadlgnaaAvE
import Derived.Sort.KeysCollected
import Derived.StringKeys
import Derived.Lib.SmallJoins
set_option linter.unusedSimpArgs false
set_option linter.unusedVariables false
namespace Go.Proofs.Ytobgdemhadlgnaa.Av
open Go Go.RowKit Go.Maps Go.Sort
/-- a closure over one block of its own -/
def boxF (kf : FuncId) (B : Nat) : Value := .func (.func kf) #[] #[.pointer (some ⟨B, 0, none⟩)]
/-- the call hands back the closure kf over a new block that holds what it was given -/
def CtrF (P : Program) (f : FuncId) (d : DV) (kf : FuncId) : Prop :=
  ∀ (v : Value) (U : Nat → Nat) (w : World), Rd w U v d → Calls P f #[v] w fun e w' => ∃ B U', e = .returned (boxF kf B) ∧ Below w.heap.size w w' ∧ (∀ b, b < w.heap.size → U' b = U b) ∧ Rd w' U' (boxF kf B) (.fn kf [.el [d]])
/-- the call of such a closure -/
def CtrV (P : Program) (f : FuncId) (kf : FuncId) (d : DV) (r : RO) : Prop :=
  ∀ (B : Nat) (U : Nat → Nat) (w : World), Rd w U (boxF kf B) (.fn kf [.el [d]]) → Calls P f #[boxF kf B] w fun e w' => ∃ v U', e = .returned v ∧ Below w.heap.size w w' ∧ (∀ b, b < w.heap.size → U' b = U b) ∧ RresO w' U' w.heap.size v r
section
variable {P : Program} {N : Nat} {w0 : World} {U0 : Nat → Nat}
theorem rg_two {d1 d2 m2 : Nat} {ops : Array Oper} {o1 o2 : Oper} {k : Nat} {L : List (Nat × AV)} {M : List (Nat × Ob)} {R : AS → Prop} {fK fS kf : FuncId} {s : Operand} {ats1 ats2 : Array TypeId} {d : DV} {r : RO}
    (ho1 : ops[k]? = some o1) (hg1 : o1.guard = none) (hop1 : o1.op = .call { callee := .value (.func fK), args := #[s], argTypes := ats1 }) (hdst1 : o1.dst = some d1) (hd1 : dOk o1 N = true) {fn1 : Func} (hf1 : P.funcs[fK]? = some fn1) (hn1 : (fn1.name == "runtime.NumGoroutine") = false) (hb1 : fn1.body.isNone = false)
    (ho2 : ops[k + 1]? = some o2) (hg2 : o2.guard = none) (hop2 : o2.op = .call { callee := .value (.func fS), args := #[.tmp d1], argTypes := ats2 }) (hdst2 : o2.dst = some d2) (hd2 : dOk o2 N = true) {fn2 : Func} (hf2 : P.funcs[fS]? = some fn2) (hn2 : (fn2.name == "runtime.NumGoroutine") = false) (hb2 : fn2.body.isNone = false)
    (hs : (SS L M).ev s = .d d) (hK : CtrF P fK d kf) (hS : CtrV P fS kf d r) (hfr : freshB ((d1, .d (.fn kf [.el [d]])) :: L) M m2 = true)
    (h : RG P N w0 U0 ops (k + 1 + 1) (SS ((d2, .ow m2) :: (d1, .d (.fn kf [.el [d]])) :: L) ((m2, r.ob) :: M)) R) : RG P N w0 U0 ops k (SS L M) R := by
  refine ⟨fun a w hst Q hQ => ?_⟩
  have hstep : ∀ k, k < ops.size → ((List.range (ops.size - k)).map (· + k)) = k :: ((List.range (ops.size - (k + 1))).map (· + (k + 1))) := by
    intro k hlt
    rw [show ops.size - k = (ops.size - (k + 1)) + 1 by omega, List.range_succ_eq_map]
    simp only [List.map_cons, Nat.zero_add, List.map_map, List.cons.injEq, true_and]
    apply List.map_congr_left
    intro x _
    show x + 1 + k = x + (k + 1)
    omega
  rw [hstep k (Array.getElem?_eq_some_iff.1 ho1).1, wpOps_cons]
  unfold wpOp
  rw [ho1]
  simp only
  have hw : Region.wanted o1 (yielded ops a.tmps) = true := by simp [Region.wanted, hg1]
  rw [if_pos hw]
  refine .inl ?_
  obtain ⟨F, hF⟩ := hst.f
  have hv : Rd w F.U (a.eval s) d := by have := hF.ev s; rw [hs] at this; exact this
  have hex : (execOp a.eval o1).run P w = .ok (.enter fK #[a.eval s]) w := by
    unfold execOp
    simp only [hop1, resolve, Act.eval, Deferred.ofValue, invoke, Sem.run_bind, Sem.run_pure, Result.andThen_ok]
    have e1 : (#[] ++ Array.map a.eval #[s] ++ #[] : Array Value) = #[a.eval s] := by apply Array.ext'; simp
    rw [e1]
    exact run_call hf1 hn1 hb1 _ w
  unfold Oper.wp
  rw [hex, Oper.upon_enter]
  refine Calls.mono (hK _ F.U w hv) ?_
  rintro e w1 ⟨B, U1, rfl, b1, u1, r1⟩
  have hfit1 := hF.put (U' := U1) hst.b.size ⟨b1.block, u1⟩ hd1 hst.s (av := .d (.fn kf [.el [d]])) (v := boxF kf B) r1 [] []
  have hst1 : St N w0 U0 (SS ((d1, .d (.fn kf [.el [d]])) :: L) M) (a.put o1.dst (boxF kf B)) w1 := by
    have : St N w0 U0 ((⟨o1.dst.map fun q => (q, .d (.fn kf [.el [d]])), [], [], []⟩ : Eff).ap (SS L M)) (a.put o1.dst (boxF kf B)) w1 := ⟨by rw [put_defers]; exact hst.d, by rw [put_size]; exact hst.s, hst.b.trans (b1.mono hst.b.size), _, hfit1⟩
    rw [ap_ss, hdst1] at this
    rw [hdst1]
    exact this
  have hsz : d1 < a.tmps.size := by
    have := hd1
    unfold dOk at this
    rw [hdst1] at this
    rw [hst.s]
    simpa using this
  have hev : (a.put o1.dst (boxF kf B)).eval (.tmp d1) = boxF kf B := by
    rw [hdst1]
    show (a.put (some d1) (boxF kf B)).tmps.getD d1 undef = _
    rw [put_get hsz, if_pos rfl]
  show wpOps P ops Q _ (a.put o1.dst (boxF kf B)) w1
  generalize a.put o1.dst (boxF kf B) = a1 at hst1 hev ⊢
  obtain ⟨F1, hF1⟩ := hst1.f
  rw [hstep (k + 1) (Array.getElem?_eq_some_iff.1 ho2).1, wpOps_cons]
  unfold wpOp
  rw [ho2]
  simp only
  have hw2 : Region.wanted o2 (yielded ops a1.tmps) = true := by simp [Region.wanted, hg2]
  rw [if_pos hw2]
  refine .inl ?_
  have hv1 : Rd w1 F1.U (boxF kf B) (.fn kf [.el [d]]) := by
    have := hF1.t d1
    have e : (SS ((d1, .d (.fn kf [.el [d]])) :: L) M).t d1 = .d (.fn kf [.el [d]]) := by simp [SS, lk]
    rw [e] at this
    have e2 : a1.tmps.getD d1 undef = boxF kf B := hev
    rw [e2] at this
    exact this
  have hex2 : (execOp a1.eval o2).run P w1 = .ok (.enter fS #[boxF kf B]) w1 := by
    unfold execOp
    have hfn : a1.eval (Operand.func fS) = .func (.func fS) #[] #[] := rfl
    simp only [hop2, resolve, hfn, Deferred.ofValue, invoke, Sem.run_bind, Sem.run_pure, Result.andThen_ok]
    have e1 : (#[] ++ Array.map a1.eval #[Operand.tmp d1] ++ #[] : Array Value) = #[boxF kf B] := by apply Array.ext'; simp [hev]
    rw [e1]
    exact run_call hf2 hn2 hb2 _ w1
  unfold Oper.wp
  rw [hex2, Oper.upon_enter]
  refine Calls.mono (hS B F1.U w1 hv1) ?_
  rintro e w2 ⟨v, U2, rfl, b2, u2, r2⟩
  have hst2 := callO_fit (o := o2) (σ := SS ((d1, .d (.fn kf [.el [d]])) :: L) M) m2 hst1 hF1 (fresh_ss hfr) hd2 b2 u2 r2 []
  rw [ap_ss] at hst2
  show wpOps P ops Q _ (a1.put o2.dst v) w2
  refine h.go _ _ ?_ Q hQ
  have e : (Eff.L ⟨o2.dst.map fun q => (q, .ow m2), (m2, r.ob) :: ([] : List Nat).map (fun q => (q, Ob.no)), [], [m2]⟩ ((d1, .d (.fn kf [.el [d]])) :: L)) = (d2, .ow m2) :: (d1, .d (.fn kf [.el [d]])) :: L := by rw [hdst2]; rfl
  rw [e] at hst2
  exact hst2
end
open Go.WideElems (Fit rd rg rd_mk rg_of)
/-- what maps.Keys does, at a program -/
def KeysG (P : Program) (fK kf : FuncId) (T : TypeId) : Prop := ∀ (mb : Option Nat) (W : World), Calls P fK #[.map mb] W fun e w' => e = .returned (boxF kf W.heap.size) ∧ w' = W.alloc (.cells #[.map mb] T)
/-- what slices.Sorted does with it -/
def SortedG (P : Program) (fS kf : FuncId) (kt et : TypeId) : Prop := ∀ (B b nn : Nat) (D0 : DataW Unit) (R : Value → Option (DataW Unit × List MemPlace)) (w : World), w.cell? ⟨B, 0, none⟩ = some (.map (some b)) → B < w.heap.size → w.ownsMap P kt R b nn D0 → Maps.size D0 ≤ maxLen → Maps.size D0 * 16 ≤ 140737488355328 →
  Calls P fS #[boxF kf B] w fun e w' => ∃ (v : Value) (ss : List (List UInt8)), e = .returned v ∧ ss.Perm (strKeys D0) ∧ w'.ownsRow w.heap.size et 1 v ss.length ((ss.mergeSort (fun x y => decide (x ≤ y))).map encStr) ∧ (v = .slice none 0 0 ↔ ss = []) ∧ Below w.heap.size w w'
theorem keysF {P : Program} {fK kf : FuncId} {T : TypeId} (h : KeysG P fK kf T) (ents : List (Value × DV)) : CtrF P fK (.mp ents) kf := by
  intro v U w hv
  obtain ⟨r, rfl⟩ : ∃ r, v = .map (some r) := by cases hv with
    | mp r es c _ hb hu hl hk hv hst => exact ⟨r, rfl⟩
  refine (h (some r) w).mono ?_
  rintro e w' ⟨rfl, rfl⟩
  obtain ⟨U', hU'⟩ : ∃ U' : Nat → Nat, U' = fun b => if b = w.heap.size then 1 else U b := ⟨_, rfl⟩
  have hup : Up w U (w.alloc (.cells #[.map (some r)] T)) U' := ⟨fun b hb => Below.heap_alloc _ _ b hb, fun b hb => by rw [hU']; exact if_neg (by omega)⟩
  refine ⟨w.heap.size, U', rfl, (Below.refl _ _).alloc (Nat.le_refl _) _, hup.u, ?_⟩
  refine .fn kf _ _ rfl (fun j u x h1 h2 => ?_)
  cases j with
  | succ j => simp at h1
  | zero =>
    simp at h1 h2
    subst h1 h2
    refine .el w.heap.size 0 _ (fun _ => .map (some r)) (fun j x hx => ?_) (fun j x hx => ?_)
    · cases j with
      | succ j => simp at hx
      | zero =>
        refine ⟨?_, by rw [hU']; simp, rfl⟩
        rw [Nat.add_zero]
        exact (cell_of_row (w.alloc (.cells #[.map (some r)] T)) w.heap.size 0 _ T (0, 0) (Go.heap_alloc_new w _)).trans rfl
    · cases j with
      | succ j => simp at hx
      | zero => simp at hx; subst hx; exact hv.ext hup.ext
theorem perm_uniqL {α : Type} {r : α → α → Prop} (ha : ∀ x y, r x y → r y x → x = y) : ∀ {l m : List α}, l.Perm m → l.Pairwise r → m.Pairwise r → l = m
  | [], m, h, _, _ => (List.Perm.nil_eq h)
  | x :: l, [], h, _, _ => by have := h.length_eq; simp at this
  | x :: l, y :: m, h, h1, h2 => by
    rw [List.pairwise_cons] at h1 h2
    have e : x = y := by
      have hx : x ∈ y :: m := h.subset (by simp)
      have hy : y ∈ x :: l := h.symm.subset (by simp)
      rcases List.mem_cons.1 hx with e | hx
      · exact e
      · rcases List.mem_cons.1 hy with e | hy
        · exact e.symm
        · exact ha _ _ (h1.1 y hy) (h2.1 x hx)
    subst e
    rw [perm_uniqL ha (List.Perm.cons_inv h) h1.2 h2.2]
def leK (x y : List UInt8) : Bool := decide (x ≤ y)
theorem leK_sorted (l : List (List UInt8)) : (l.mergeSort fun x y => decide (x ≤ y)).Pairwise (fun x y => x ≤ y) := by
  have := List.pairwise_mergeSort (le := fun x y : List UInt8 => decide (x ≤ y)) (fun a b c h1 h2 => by simp at *; exact List.le_trans h1 h2) (fun a b => by simp; exact List.le_total a b) l
  exact this.imp (fun h => by simpa using h)
theorem leK_perm {l m : List (List UInt8)} (h : l.Perm m) : (l.mergeSort fun x y => decide (x ≤ y)) = m.mergeSort fun x y => decide (x ≤ y) :=
  perm_uniqL (fun x y h1 h2 => List.le_antisymm h1 h2) (((List.mergeSort_perm l _).trans h).trans (List.mergeSort_perm m _).symm) (leK_sorted l) (leK_sorted m)
/-- texts in their order -/
def srtS (l : List ByteArray) : List ByteArray := ((l.map fun s => s.data.toList).mergeSort fun x y => decide (x ≤ y)).map fun x => ⟨x.toArray⟩
theorem srtS_perm (l : List ByteArray) : (srtS l).Perm l := by
  have h := ((List.mergeSort_perm (l.map fun s => s.data.toList) fun x y => decide (x ≤ y)).map fun x => (⟨x.toArray⟩ : ByteArray))
  rw [List.map_map] at h
  have e : l.map ((fun x => (⟨x.toArray⟩ : ByteArray)) ∘ fun s => s.data.toList) = l := by
    have : ((fun x : List UInt8 => (⟨x.toArray⟩ : ByteArray)) ∘ fun s : ByteArray => s.data.toList) = id := by funext s; rfl
    rw [this, List.map_id]
  rw [e] at h
  exact h
theorem sortedV {P : Program} {fS kf : FuncId} {kt et : TypeId} (h : SortedG P fS kf kt et) (hkt : P.underlying kt = some .string) {ents : List (Value × DV)} {l : List ByteArray} (hl : ents.map Prod.fst = l.map Value.string) (hn : l.length ≤ 1000000) (hs : ∀ s ∈ l, s.size ≤ maxLen) : CtrV P fS kf (.mp ents) (.tr et 1 (tD rS (srtS l))) := by
  intro B U w hv
  obtain ⟨r, es, c, h1, h2, h3, h4, h5, h6⟩ : ∃ r es c, w.cell? ⟨B, 0, none⟩ = some (.map (some r)) ∧ w.heap[r]? = some (.map es c) ∧ es.size = ents.length ∧ (∀ (i : Nat) (e : MapEntry) (x : Value × DV), es.toList[i]? = some e → ents[i]? = some x → e.key = x.1) ∧ MapKept.Stamped es c ∧ B < w.heap.size := by
    unfold boxF at hv
    cases hv with
    | fn _ vs _ hh hc =>
      have hp := hc 0 _ _ rfl rfl
      cases hp with
      | el b off _ u hcell hr =>
        have hm := hr 0 _ rfl
        have hc0 := (hcell 0 _ rfl).1
        generalize u 0 = q at hm hc0
        cases hm with
        | mp r es c _ hb hu hl hk hv hst => exact ⟨r, es, c, hc0, hb, hl, hk, hst, World.block_lt_of_cell? w _ hc0⟩
  obtain ⟨R, hR⟩ : ∃ R : Value → Option (DataW Unit × List MemPlace), R = fun _ => some (.lit (.bool false), []) := ⟨_, rfl⟩
  have hkeys : es.toList.map (·.key) = l.map Value.string := by
    rw [← hl]
    apply List.ext_getElem?
    intro i
    rw [List.getElem?_map, List.getElem?_map]
    rcases Nat.lt_or_ge i ents.length with hi | hi
    · have g1 : es.toList[i]? = some (es.toList[i]'(by simpa using (by omega))) := List.getElem?_eq_getElem _
      have g2 : ents[i]? = some ents[i] := List.getElem?_eq_getElem hi
      rw [g1, g2]
      exact congrArg some (h4 i _ _ g1 g2)
    · rw [List.getElem?_eq_none (by simp; omega), List.getElem?_eq_none hi]; rfl
  have hll : es.size = l.length := by have := congrArg List.length hkeys; simpa using this
  have hrd : ∀ x ∈ es.toList, ∃ s ∈ l, x.key = .string s ∧ rd P kt R x = some (.string s.data.toList, .lit (.bool false)) := by
    intro x hx
    have : x.key ∈ l.map Value.string := by rw [← hkeys]; exact List.mem_map.2 ⟨x, hx, rfl⟩
    obtain ⟨s, hs1, hs2⟩ := List.mem_map.1 this
    refine ⟨s, hs1, hs2.symm, ?_⟩
    have := rd_mk (P := P) (k := kt) (R := R) (key := x.key) (val := x.val) (born := x.born) (kl := .string s.data.toList) (yv := (.lit (.bool false), [])) (by rw [← hs2]; exact Go.WideMaps.keyOf_string_mk hkt (hs s hs1)) (by rw [hR])
    exact this
  obtain ⟨D0, hD0⟩ : ∃ D0 : DataW Unit, D0 = .map ((es.toList.map (rg P kt R)).foldr DataW.insert []) := ⟨_, rfl⟩
  have hown : w.ownsMap P kt R r l.length D0 := ⟨es, c, h2, ⟨by rw [hll]; unfold maxLen; omega, h5, fun x hx => by obtain ⟨s, _, _, hq⟩ := hrd x hx; exact ⟨_, hq⟩⟩, by omega, hD0⟩
  have hsz : Maps.size D0 = l.length := by
    rw [hD0]
    show ((es.toList.map _).foldr DataW.insert []).length = _
    rw [length_sorted]; simp [hll]
  have hsk : (strKeys D0).Perm (l.map fun s => s.data.toList) := by
    rw [hD0]
    refine ((Go.WideShapes.sorted_perm _).map _).trans ?_
    have e : (es.toList.map (rg P kt R)).map (fun p => strOf p.1) = (es.toList.map (·.key)).map (fun v => match v with | .string s => s.data.toList | _ => []) := by
      rw [List.map_map, List.map_map]
      apply List.map_congr_left
      intro x hx
      obtain ⟨s, _, g1, g2⟩ := hrd x hx
      show strOf (rg P kt R x).1 = _
      rw [rg_of g2]
      simp only [Function.comp, g1]; rfl
    rw [e, hkeys, List.map_map]
    exact List.Perm.refl _
  refine (h B r l.length D0 R w h1 h6 hown (by rw [hsz]; unfold maxLen; omega) (by rw [hsz]; omega)).mono ?_
  rintro e w' ⟨v, ss, rfl, q1, q2, q3, q4⟩
  have hss : (ss.mergeSort fun x y => decide (x ≤ y)) = (l.map fun s => s.data.toList).mergeSort fun x y => decide (x ≤ y) := leK_perm (q1.trans hsk)
  have hsl : ss.length = (tD rS (srtS l)).length := by
    have := (q1.trans hsk).length_eq
    rw [sRow_len, (srtS_perm l).length_eq, this]; simp
  rw [hss, hsl] at q2
  obtain ⟨U', hU'⟩ : ∃ U' : Nat → Nat, U' = fun b => if b < w.heap.size then U b else 0 := ⟨_, rfl⟩
  refine ⟨v, U', rfl, q4, fun b hb => by rw [hU']; exact if_pos hb, _, fun _ _ => False, q2, ?_, fun r hr => ?_, fun b hb => ⟨?_, fun _ h => h⟩⟩
  · rw [sRow_flat]
    refine Tcs.ofRc ⟨⟨by simp [srtS], fun j u d h1 h2 => ?_⟩, fun u hu => ?_⟩
    · unfold srtS at h2
      rw [List.getElem?_map] at h1 h2
      rw [List.getElem?_map] at h2
      cases hq : ((l.map fun s => s.data.toList).mergeSort fun x y => decide (x ≤ y))[j]? with
      | none => rw [hq] at h1; cases h1
      | some x => rw [hq] at h1 h2; cases h1; cases h2; exact .fl _
    · obtain ⟨x, _, rfl⟩ := List.mem_map.1 hu; rfl
  · obtain ⟨y, hy, rfl⟩ := List.mem_map.1 hr
    obtain ⟨q, _, rfl⟩ := List.mem_map.1 hy; rfl
  · have hge : w.heap.size ≤ b := by
      rcases q2.2 with ⟨e0, _⟩ | ⟨g, cap, cur, e1, e2, _⟩
      · rw [e0] at hb; cases hb
      · rw [e1] at hb; have : g = b := by simpa [Value.ownBlock] using hb
        omega
    rw [hU']; exact if_neg (by omega)
end Go.Proofs.Ytobgdemhadlgnaa.Av
