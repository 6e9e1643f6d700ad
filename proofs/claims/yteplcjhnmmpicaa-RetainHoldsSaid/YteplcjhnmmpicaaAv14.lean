/- Own rows as data; boxes that own; contracts whose result is the caller's own. Conditions: as each theorem names them. -/
import Derived.Test.YteplcjhnmmpicaaAv13
set_option linter.unusedSimpArgs false
set_option linter.unusedVariables false
namespace Go.Proofs.Yteplcjhnmmpicaa.Av
open Go Go.RowKit
section
variable {P : Program} {N : Nat} {w0 : World} {U0 : Nat → Nat}
theorem own_rd {B : Nat} {w : World} {U : Nat → Nat} {v : Value} {e : TypeId} {z : Nat} {xs : List Value} {rows : List (List DV)} (h1 : w.ownsRow B e z v rows.length xs) (h2 : Rc w U xs rows.flatten) (h3 : ∀ r ∈ rows, r.length = z) (hU : ∀ b, v.ownBlock = some b → U b = rows.length * z) : Rd w U v (.sl z rows) := by
  rcases h1.2 with ⟨hv, hn⟩ | ⟨g, cap, cur, hv, hg, hh, hnc, hcm, hcs, htake⟩
  · have hr : rows = [] := List.eq_nil_of_length_eq_zero hn
    subst hr
    rw [hv]
    exact .sn none 0 z
  · have hU := hU g (by rw [hv]; rfl)
    rw [hv]
    have key : ∀ i j x, cellAt rows i j = some x → rows.flatten[i * z + j]? = some x ∧ i * z + j < rows.length * z ∧ xs[i * z + j]? = some (xs.getD (i * z + j) undef) := fun i j x hx => by
      unfold cellAt at hx
      obtain ⟨r, hr, hj⟩ := Option.bind_eq_some_iff.1 hx
      obtain ⟨g1, g2⟩ := flat_get h3 hr hj
      have hlt : i * z + j < xs.length := by rw [h2.1.1]; exact (List.getElem?_eq_some_iff.1 g1).1
      exact ⟨g1, g2, by simp [List.getD, List.getElem?_eq_getElem hlt]⟩
    refine .sl g 0 rows.length cap z rows (fun i j => xs.getD (i * z + j) undef) rfl h3 ⟨by unfold maxLen at hcm; omega, by omega⟩ (fun i j x hx => ?_) (fun i j x hx => ?_)
    · obtain ⟨g1, g2, hu⟩ := key i j x hx
      refine ⟨?_, by rw [hU, Nat.zero_add]; exact g2, h2.2 _ (List.mem_of_getElem? hu)⟩
      have := h1.cells (g := g) (by rw [hv]; rfl) _ _ hu
      rw [add_plain'] at this
      rw [Nat.zero_add] at this ⊢
      exact this
    · obtain ⟨g1, g2, hu⟩ := key i j x hx
      exact h2.1.2 _ _ _ hu g1
def OC.ok : OC → Bool
  | .un => false
  | _ => true
def OC.len : OC → Nat
  | .ow _ z rows => rows.length * z
  | _ => 0
/-- the extents when all is handed on -/
noncomputable def leakU (U : Nat → Nat) (cs : List OC) (T : Nat → Nat → Prop) : Nat → Nat := fun b => open Classical in if h : ∃ k, T k b then ((cs[Classical.choose h]?).map OC.len).getD 0 else U b
theorem leakU_T {U : Nat → Nat} {cs : List OC} {T : Nat → Nat → Prop} (hd : ∀ k k' b, T k b → T k' b → k = k') {k b : Nat} (h : T k b) {c : OC} (hc : cs[k]? = some c) : leakU U cs T b = c.len := by
  have hex : ∃ k, T k b := ⟨k, h⟩
  unfold leakU
  rw [dif_pos hex, hd _ k b (Classical.choose_spec hex) h, hc]
  rfl
theorem leakU_no {U : Nat → Nat} {cs : List OC} {T : Nat → Nat → Prop} {b : Nat} (h : ¬ ∃ k, T k b) : leakU U cs T b = U b := by
  unfold leakU
  rw [dif_neg h]
/-- cells that own read as data when all is handed on -/
theorem Tcs.leak {w : World} {U U' : Nat → Nat} {B : Nat} {us : List Value} {cs : List OC} {T : Nat → Nat → Prop} (h : Tcs w U B us cs T) (hok : ∀ c ∈ cs, c.ok = true) (hE : Ext w U w U') (hT : ∀ k b c, T k b → cs[k]? = some c → U' b = c.len) : Rc w U' us (cs.map OC.rd) := by
  refine ⟨⟨by rw [List.length_map]; exact h.l, fun k u x hu hx => ?_⟩, h.o⟩
  rw [List.getElem?_map] at hx
  obtain ⟨c, hc, rfl⟩ := Option.map_eq_some_iff.1 hx
  have hoc := hok c (List.mem_of_getElem? hc)
  have hto := h.c k u c hu hc
  cases c with
  | un => cases hoc
  | dv x => exact hto.1.ext hE
  | ow e z rows =>
    obtain ⟨xs, g1, g2, g3, g4, g5⟩ := hto
    exact own_rd g1 (g2.ext hE) g3 (fun b hb => hT k b _ ((g4 b).2 hb) hc)
theorem imp_leak {L : List (Nat × AV)} {M : List (Nat × Ob)} (t m : Nat) {e : TypeId} {z : Nat} {rows : List (List OC)} (ht : lk L t = .ow m) (hm : ln M m = .tr e z rows) (hok : ∀ r ∈ rows, ∀ c ∈ r, c.ok = true) : Imp N w0 U0 (SS L M) (SS ((t, .d (.sl z (rows.map (·.map OC.rd)))) :: L) ((m, .no) :: M)) := by
  intro a w hs
  obtain ⟨F, hF⟩ := hs.f
  have hv : a.tmps.getD t undef = F.γ m := by have := hF.t t; rw [show (SS L M).t t = _ from ht] at this; exact this
  have hob := hF.n m
  rw [show (SS L M).n m = _ from hm] at hob
  obtain ⟨xs, T, g1, g2, g3, g4, g5⟩ := hob
  have hlive : ((SS L M).n m).live = true := by rw [show (SS L M).n m = _ from hm]; rfl
  obtain ⟨U', hU'⟩ : ∃ U' : Nat → Nat, U' = fun b => if (F.γ m).ownBlock = some b then rows.length * z else leakU F.U rows.flatten T b := ⟨_, rfl⟩
  have hUo : ∀ b, (F.γ m).ownBlock = some b → U' b = rows.length * z := fun b hb => by rw [hU']; exact if_pos hb
  have hUT : ∀ k b c, T k b → rows.flatten[k]? = some c → U' b = c.len := fun k b c hk hc => by
    rw [hU']
    have hne : ¬ (F.γ m).ownBlock = some b := fun hb => (g4 b hb).2 k hk
    show (if _ then _ else _) = _
    rw [if_neg hne]
    exact leakU_T g2.d hk hc
  have hUn : ∀ b, ¬ F.S m b → U' b = F.U b := fun b hb => by
    rw [hU']
    have hne : ¬ (F.γ m).ownBlock = some b := fun h => hb ((g5 b).2 (.inl h))
    show (if _ then _ else _) = _
    rw [if_neg hne]
    exact leakU_no (fun h => hb ((g5 b).2 (.inr h)))
  have hU0 : ∀ b, F.S m b → F.U b = 0 := fun b hb => by
    rcases (g5 b).1 hb with h | ⟨k, h⟩
    · exact (g4 b h).1
    · have hk := g2.b k b h
      have hl := g2.l
      have := g2.c k _ _ (List.getElem?_eq_getElem hk) (List.getElem?_eq_getElem (by omega))
      generalize rows.flatten[k]'(by omega) = c at this
      cases c with
      | un => exact absurd h (this b)
      | dv x => exact absurd h (this.2 b)
      | ow e2 z2 rows2 => obtain ⟨_, _, _, _, q4, q5⟩ := this; exact q5 b ((q4 b).1 h)
  have hE : Ext w F.U w U' := ⟨fun b o u hc ho' => ⟨hc, by
    by_cases hb : F.S m b
    · rw [hU0 b hb] at ho'; omega
    · rw [hUn b hb]; exact ho'⟩, fun r es c hr hu => ⟨rfl, hUn r (fun hb => by rw [hU0 r hb] at hu; omega)⟩⟩
  have hflat : (rows.map (·.map OC.rd)).flatten = rows.flatten.map OC.rd := by
    clear hok g3 g1 g2 g4 g5 hUo hUT hUn hm hU'
    induction rows with
    | nil => rfl
    | cons r rows ih => simp only [List.map_cons, List.flatten_cons, List.map_append, ih]
  have hokf : ∀ c ∈ rows.flatten, c.ok = true := fun c hc => by
    obtain ⟨r, hr, hcr⟩ := List.mem_flatten.1 hc
    exact hok r hr c hcr
  have hrcl := g2.leak hokf hE hUT
  rw [← hflat] at hrcl
  have hrd : Rd w U' (F.γ m) (.sl z (rows.map (·.map OC.rd))) := by
    refine own_rd (e := e) (xs := xs) (by rw [List.length_map]; exact g1) hrcl (fun r hr => ?_) (fun b hb => by rw [List.length_map]; exact hUo b hb)
    obtain ⟨r', h1, rfl⟩ := List.mem_map.1 hr
    simpa using g3 r' h1
  have hb := hF.big (F' := ⟨F.β, F.γ, U', fun k x => k ≠ m ∧ F.S k x⟩) (w' := w) (tw := some (t, .d (.sl z (rows.map (·.map OC.rd))))) (nw := [(m, .no)]) hE
    (fun x hx => hUn x (fun h => by have := ((hF.n m).lt hlive h).1; omega))
    (fun k hk => ⟨rfl, rfl, fun x => ⟨fun h => h.2, fun h => ⟨fun e => by subst e; simp [nwGet] at hk, h⟩⟩⟩)
    (fun k hk => .inl ⟨rfl, rfl⟩)
    (fun k hl hk x hx hxl => ⟨rfl, hUn x (fun h => by
      have := hF.i k m x hl hlive hx h
      subst this
      simp [nwGet] at hk)⟩)
    (fun k o hk => by
      unfold nwGet at hk
      cases hb : Nat.beq m k with
      | true => rw [hb] at hk; simp at hk; subst hk; trivial
      | false => rw [hb] at hk; simp [nwGet] at hk)
    (fun k o k' x hk hl => by
      unfold nwGet at hk
      cases hb : Nat.beq m k with
      | true => rw [hb] at hk; simp at hk; subst hk; cases hl
      | false => rw [hb] at hk; simp [nwGet] at hk)
    (fun k o k' o' x hk hl => by
      unfold nwGet at hk
      cases hb : Nat.beq m k with
      | true => rw [hb] at hk; simp at hk; subst hk; cases hl
      | false => rw [hb] at hk; simp [nwGet] at hk)
    (a' := a) (fun t' => by simp only; split <;> rfl) (fun d v h => by
      simp only [Option.some.injEq, Prod.mk.injEq] at h
      obtain ⟨rfl, rfl⟩ := h
      rw [hv]
      exact hrd) [] []
  rw [ap_ss] at hb
  exact ⟨hs.d, hs.s, hs.b, _, hb⟩
/-! ### boxes that own -/
theorem imp_bt {L : List (Nat × AV)} {M : List (Nat × Ob)} (m : Nat) {ty : TypeId} {cs : List DV} (hm : ln M m = .bx ty cs) : Imp N w0 U0 (SS L M) (SS L ((m, .bt ty (cs.map .dv)) :: M)) := by
  intro a w hs
  obtain ⟨F, hF⟩ := hs.f
  have hob := hF.n m
  rw [show (SS L M).n m = _ from hm] at hob
  obtain ⟨b, vs, k1, k2, k3, k4, k5, k6⟩ := hob
  refine ⟨hs.d, hs.s, hs.b, F, hF.u, hF.t, fun k => ?_, fun k k' b h1 h2 h3 h4 => ?_⟩
  · show Rob _ w F k (bif Nat.beq m k then _ else ln M k)
    by_cases e1 : m = k
    · subst e1
      rw [Nat.beq_refl]
      exact ⟨b, vs, fun _ _ => False, k1, k2, k3, k4, Tcs.ofRc k5, fun _ => id, fun b' => ⟨fun h => .inl ((k6 b').1 h), fun h => h.elim (k6 b').2 (fun ⟨_, h⟩ => h.elim)⟩⟩
    · rw [nbeq e1]; exact hF.n k
  · have g : ∀ j, ((SS L ((m, .bt ty (cs.map .dv)) :: M)).n j).live = true → ((SS L M).n j).live = true := fun j hj => by
      by_cases e1 : m = j
      · subst e1; show (ln M m).live = true; rw [hm]; rfl
      · have hj' : (bif Nat.beq m j then _ else ln M j : Ob).live = true := hj
        rw [nbeq e1] at hj'; exact hj'
    exact hF.i k k' b (g k h1) (g k' h2) h3 h4
theorem bt_get {σ : AS} {a : Act} {w : World} {F : Fr} (hF : Fits w0 U0 σ a w F) {m : Nat} {ty : TypeId} {cs : List OC} (h : σ.n m = .bt ty cs) {b : Nat} (hb : F.β m = some b) : ∃ vs T, w0.heap.size ≤ b ∧ F.U b = 0 ∧ w.heap[b]? = some (.cells vs ty (0, 0)) ∧ Tcs w F.U w0.heap.size vs.toList cs T ∧ (∀ k, ¬ T k b) ∧ ∀ b', F.S m b' ↔ (b' = b ∨ ∃ k, T k b') := by
  have := hF.n m
  rw [h] at this
  obtain ⟨b', vs, T, h1, h2⟩ := this
  rw [hb] at h1
  injection h1 with h1
  subst h1
  exact ⟨vs, T, h2⟩
theorem op_store_bt {o : Oper} {σ : AS} {t : TypeId} {x y : Operand} (ho : o.op = .store t x y) (hdn : o.dst = none) {zv : Value} {sz bb : Nat} (hi : TI P t zv sz bb) {m p : Nat} (hx : σ.ev x = .pt m p) {ty : TypeId} {cs : List OC} (hm : σ.n m = .bt ty cs) {av : AV} (hy : σ.ev y = av) {ds : List OC} {kill : Option Nat} (hsrc : SrcS σ av ds kill)
    (hkm : (match kill with | some q => Nat.beq q m | none => false) = false) (hl : Nat.beq ds.length sz = true) (hj : Nat.ble (p + sz) cs.length = true) :
    OpS P N w0 U0 o σ ⟨none, (m, .bt ty (cs.take p ++ ds ++ cs.drop (p + ds.length))) :: kill.toList.map (fun q => (q, Ob.no)), m :: kill.toList, []⟩ := by
  intro σ' hok a w hs K Q hK
  obtain ⟨F, hF⟩ := hs.f
  obtain ⟨ti, t1, _, t3, _⟩ := hi
  subst t3
  have hl' := Nat.eq_of_beq_eq_true hl
  have hj' := Nat.le_of_ble_eq_true hj
  obtain ⟨g, hβ, h2⟩ := ev_get hok hF (x := x) (by simp [ho, Op.operands]) hx
  have hvy := ev_get hok hF (x := y) (by simp [ho, Op.operands]) hy
  obtain ⟨T2, s1, s2⟩ := hsrc.get hF (fun q hq => hok.n q (by simp [hq])) hvy
  have hm' : σ'.n m = .bt ty cs := by rw [hok.n m (by simp)]; exact hm
  obtain ⟨vs, T, kB, kU, k3, k8, kT, kS⟩ := bt_get hF hm' hβ
  have hlive : (σ'.n m).live = true := by rw [hm']; rfl
  have hkm' : ∀ q, kill = some q → q ≠ m := fun q hq h => by subst hq; subst h; simp at hkm
  have hcl : (a.eval y).cells.toList.length = ti.size := by rw [s1.l, hl']
  have hvl := k8.l
  obtain ⟨cur', hcur'⟩ : ∃ cur' : Array Value, cur' = (vs.toList.take (p + 0) ++ (a.eval y).cells.toList ++ vs.toList.drop (p + 0 + (a.eval y).cells.toList.length)).toArray := ⟨_, rfl⟩
  have hst := run_storeCells_at (P := P) g p ty (a.eval y).cells.toList 0 vs w k3 (by simp at hvl hcl ⊢; omega) s1.o
  rw [← hcur'] at hst
  have hrun : (storeVar t ⟨g, p, none⟩ (a.eval y)).run P w = .ok () (w.setRow g cur') := by
    unfold storeVar
    rw [Sem.run_bind, run_sizeOf' t1]
    have hne : ¬ ((a.eval y).cells.size ≠ ti.size) := by simp at hcl; simp [hcl]
    simp only [Result.andThen_ok]
    rw [if_neg hne]
    simpa using hst
  have hex : (execOp a.eval o).run P w = .ok .skip (w.setRow g cur') := by
    simp only [execOp, ho, Instr.storeAt, Instr.sureAddr, h2, Sem.run_bind, Sem.run_pure, Result.andThen_ok, hrun]
  have hheap : (w.setRow g cur').heap[g]? = some (.cells cur' ty (0, 0)) := setRow_heap w g vs _ ty (0, 0) k3
  have hoth : ∀ b, b ≠ g → (w.setRow g cur').heap[b]? = w.heap[b]? := fun b hb => setRow_other w g b _ hb
  have hE : Ext w F.U (w.setRow g cur') F.U := ⟨fun b' o' u hcu ho' => by
    by_cases hbb : b' = g
    · subst hbb; omega
    · exact ⟨(cell_setRow_other w g _ ⟨b', o', none⟩ hbb).trans hcu, ho'⟩, fun r es c hr hu => ⟨hoth r (fun e => by subst e; omega), rfl⟩⟩
  have hdis : ∀ q k b, T q b → T2 k b → False := fun q k b h3 h4 => by
    obtain ⟨q', e1, e2, e3⟩ := s2 k b h4
    have := hF.i m q' b hlive e2 ((kS b).2 (.inr ⟨q, h3⟩)) e3
    exact hkm' q' e1 this.symm
  have hdis2 : ∀ k, ¬ T2 k g := fun k h4 => by
    obtain ⟨q', e1, e2, e3⟩ := s2 k g h4
    exact hkm' q' e1 (hF.i m q' g hlive e2 ((kS g).2 (.inl rfl)) e3).symm
  have hspl := k8.splice s1 p (by rw [hcl]; omega) hdis
  have hcurl : cur'.toList = vs.toList.take p ++ (a.eval y).cells.toList ++ vs.toList.drop (p + (a.eval y).cells.toList.length) := by rw [hcur']; simp
  rw [← hcurl] at hspl
  obtain ⟨T', hT'⟩ : ∃ T' : Nat → Nat → Prop, T' = fun q b => if q < p then T q b else if q < p + (a.eval y).cells.toList.length then T2 (q - p) b else T q b := ⟨_, rfl⟩
  rw [← hT'] at hspl
  have hTsub : ∀ q b, T' q b → (∃ k, T k b) ∨ ∃ k, T2 k b := fun q b h => by
    rw [hT'] at h
    split at h
    · exact .inl ⟨_, h⟩
    · split at h
      · exact .inr ⟨_, h⟩
      · exact .inl ⟨_, h⟩
  have hTlt : ∀ q b, T' q b → b ≠ g := fun q b h e' => by
    subst e'
    rcases hTsub q b h with ⟨k, h⟩ | ⟨k, h⟩
    · exact kT k h
    · exact hdis2 k h
  have hnw := nw_kills m (.bt ty (cs.take p ++ ds ++ cs.drop (p + ds.length))) kill.toList
  obtain ⟨F', hF'⟩ : ∃ F' : Fr, F' = ⟨F.β, F.γ, F.U, fun k b => if k = m then (b = g ∨ ∃ q, T' q b) else F.S k b⟩ := ⟨_, rfl⟩
  have hU : F'.U = F.U := by rw [hF']
  have hSm : ∀ b, F'.S m b ↔ (b = g ∨ ∃ q, T' q b) := fun b => by rw [hF']; show (if m = m then _ else _) ↔ _; rw [if_pos rfl]
  have hSk : ∀ k, k ≠ m → ∀ b, F'.S k b ↔ F.S k b := fun k a2 b => by rw [hF']; show (if k = m then _ else _) ↔ _; rw [if_neg a2]
  have hown : ∀ b, (b = g ∨ ∃ q, T' q b) → F.S m b ∨ ∃ q', kill = some q' ∧ (σ'.n q').live = true ∧ F.S q' b := fun b h => by
    rcases h with h | ⟨q, h⟩
    · exact .inl ((kS b).2 (.inl h))
    · rcases hTsub q b h with h | ⟨k, h⟩
      · exact .inl ((kS b).2 (.inr h))
      · exact .inr (s2 k b h)
  have hb := hF.big (F' := F') (w' := w.setRow g cur') (tw := none) (nw := (m, .bt ty (cs.take p ++ ds ++ cs.drop (p + ds.length))) :: kill.toList.map (fun q => (q, Ob.no))) (by rw [hU]; exact hE) (fun b _ => by rw [hU])
    (fun k hk => by
      rw [hnw] at hk
      have a1 : k ≠ m := fun h => by rw [if_pos h] at hk; cases hk
      exact ⟨by rw [hF'], by rw [hF'], hSk k a1⟩)
    (fun k hk => .inl ⟨by rw [hF'], by rw [hF']⟩)
    (fun k hl hk b hb hlt => ⟨hoth b (fun e' => by
      subst e'
      have := hF.i k m b hl hlive hb ((kS b).2 (.inl rfl))
      subst this
      rw [hnw, if_pos rfl] at hk; cases hk), by rw [hU]⟩)
    (fun k ob hk => by
      rw [hnw] at hk
      by_cases a1 : k = m
      · rw [if_pos a1] at hk
        injection hk with hk
        subst hk a1
        exact ⟨g, cur', T', by rw [hF']; exact hβ, kB, by rw [hU]; exact kU, hheap, by rw [hU]; exact hspl.ext hE (fun q b hq hlt => ⟨hoth b (hTlt q b hq), rfl⟩), fun q h => hTlt q g h rfl, hSm⟩
      · rw [if_neg a1] at hk
        by_cases a2 : k ∈ kill.toList
        · rw [if_pos a2] at hk; injection hk with hk; subst hk; trivial
        · rw [if_neg a2] at hk; cases hk)
    (fun k ob k' b hk hl hk' hl' hb hb' => by
      rw [hnw] at hk hk'
      by_cases a1 : k = m
      · subst a1
        have a1' : k' ≠ k := fun h => by rw [if_pos h] at hk'; cases hk'
        rw [if_neg a1'] at hk'
        have a2' : k' ∉ kill.toList := fun h => by rw [if_pos h] at hk'; cases hk'
        rcases hown b ((hSm b).1 hb) with h | ⟨q', e1, e2, e3⟩
        · exact a1' (hF.i k k' b hlive hl' h hb').symm
        · exact a2' (by rw [hF.i k' q' b hl' e2 hb' e3]; simp [e1])
      · rw [if_neg a1] at hk
        by_cases a2 : k ∈ kill.toList
        · rw [if_pos a2] at hk; injection hk with hk; subst hk; cases hl
        · rw [if_neg a2] at hk; cases hk)
    (fun k ob k' ob' b hk hl hk' hl' hb hb' => by
      rw [hnw] at hk hk'
      have key : ∀ k (ob : Ob), (if k = m then some (Ob.bt ty (cs.take p ++ ds ++ cs.drop (p + ds.length))) else if k ∈ kill.toList then some .no else none) = some ob → ob.live = true → k = m := fun k ob hk hl => by
        by_cases a1 : k = m
        · exact a1
        · rw [if_neg a1] at hk
          by_cases a2 : k ∈ kill.toList
          · rw [if_pos a2] at hk; injection hk with hk; subst hk; cases hl
          · rw [if_neg a2] at hk; cases hk
      rw [key k ob hk hl, key k' ob' hk' hl'])
    (a' := a) (fun t => rfl) (fun d v h => by cases h) (m :: kill.toList) []
  unfold Oper.wp
  rw [hex, Oper.upon_skip, hdn]
  refine hK _ _ ⟨hs.d, hs.s, hs.b.trans ⟨rfl, rfl, rfl, by simp, fun k hk => hoth k (by omega)⟩, _, hb⟩
/-- a struct that is moved out of its box -/
theorem op_move_bt {o : Oper} {σ : AS} {t : TypeId} {x : Operand} (m3 : Nat) (ho : o.op = .load t x) {d : TypeDesc} (hu : P.underlying t = some d) (ha : aggD d = true) {zv : Value} {sz bb : Nat} (hi : TI P t zv sz bb) {m : Nat} (hx : σ.ev x = .pt m 0) {ty : TypeId} {cs : List OC} (hm : σ.n m = .bt ty cs) (hl : Nat.beq cs.length sz = true) (hd : dOk o N = true) :
    OpS P N w0 U0 o σ ⟨o.dst.map fun d => (d, .ow m3), (m3, .sv cs) :: [m].map (fun q => (q, Ob.no)), [m], [m3]⟩ := by
  intro σ' hok a w hs K Q hK
  obtain ⟨F, hF⟩ := hs.f
  obtain ⟨ti, t1, _, t3, _⟩ := hi
  subst t3
  have hl' := Nat.eq_of_beq_eq_true hl
  obtain ⟨g, hβ, h2⟩ := ev_get hok hF (x := x) (by simp [ho, Op.operands]) hx
  have hm' : σ'.n m = .bt ty cs := by rw [hok.n m (by simp)]; exact hm
  obtain ⟨vs, T, kB, kU, k3, k8, kT, kS⟩ := bt_get hF hm' hβ
  have hlive : (σ'.n m).live = true := by rw [hm']; rfl
  have hvl := k8.l
  have hld := run_load_many (P := P) hu ha t1 (w := w) (b := g) (o := 0) (us := vs.toList) (by omega) (fun j u hu => by rw [Nat.zero_add, cell_of_row w g j vs ty (0, 0) k3]; simpa using hu)
  have hex : (execOp a.eval o).run P w = .ok (.value (.agg vs)) w := by
    simp [execOp, ho, h2, Instr.loadAt, Instr.sureAddr, hld]
  unfold Oper.wp
  rw [hex]
  have hfit := hF.make (m := m3) (ob := .sv cs) (ks := [m]) (γv := .agg vs) (βv := none) (Sm := fun b => ∃ k, T k b) (U' := F.U) (w' := w) (a' := a.put o.dst (.agg vs)) (tw := o.dst.map fun d => (d, .ow m3)) (hok.f m3 (by simp)) Ext.rfl (fun _ _ => rfl) (fun _ _ _ _ _ _ => ⟨rfl, rfl⟩) (fun b hb => .inr ⟨m, by simp, hlive, (kS b).2 (.inr hb)⟩)
    ⟨vs, T, by simp only [↓reduceIte], k8, fun b => by simp only [↓reduceIte]⟩
    (hta_put hd hs.s (.ow m3) _).1 (fun d v h => by
      obtain ⟨rfl, h3⟩ := (hta_put hd hs.s (.ow m3) (.agg vs)).2 d v h
      rw [h3]; exact (if_pos rfl).symm) [m] [m3]
  exact hK _ _ ⟨by rw [put_defers]; exact hs.d, by rw [put_size]; exact hs.s, hs.b, _, hfit⟩
theorem op_load_bt {o : Oper} {σ : AS} {t : TypeId} {x : Operand} (ho : o.op = .load t x) {d : TypeDesc} (hu : P.underlying t = some d) (ha : aggD d = false) {m p : Nat} (hx : σ.ev x = .pt m p) {ty : TypeId} {cs : List OC} (hm : σ.n m = .bt ty cs) {v : DV} (hv : cs[p]? = some (.dv v)) (hd : dOk o N = true) : OpS P N w0 U0 o σ ⟨o.dst.map fun d => (d, .d v), [], [m], []⟩ :=
  opS_still (P := P) (av := .d v) hd fun σ' hok a w F hF => by
    obtain ⟨b, h1, h2⟩ := ev_get hok hF (x := x) (by simp [ho, Op.operands]) hx
    have hm' : σ'.n m = .bt ty cs := by rw [hok.n m (by simp)]; exact hm
    obtain ⟨vs, T, _, _, k3, k8, _, _⟩ := bt_get hF hm' h1
    have hlt : p < vs.toList.length := by rw [k8.l]; exact (List.getElem?_eq_some_iff.1 hv).1
    obtain ⟨u, hu'⟩ : ∃ u, vs.toList[p]? = some u := ⟨_, List.getElem?_eq_getElem hlt⟩
    have hc : w.cell? ⟨b, p, none⟩ = some u := by rw [cell_of_row w b p vs ty (0, 0) k3]; simpa using hu'
    refine ⟨u, ?_, (k8.c p u _ hu' hv).1⟩
    simp [execOp, ho, h2, Instr.loadAt, Instr.sureAddr, run_load_one hu ha hc]
/-! ### contracts whose result is the caller's own -/
inductive RO where
  | tr (e : TypeId) (z : Nat) (rows : List (List OC))
  | sv (cs : List OC)
def RO.ob : RO → Ob
  | .tr e z rows => .tr e z rows
  | .sv cs => .sv cs
def RresO (w : World) (U : Nat → Nat) (B : Nat) (v : Value) : RO → Prop
  | .tr e z rows => ∃ xs T, w.ownsRow B e z v rows.length xs ∧ Tcs w U B xs rows.flatten T ∧ (∀ r ∈ rows, r.length = z) ∧ ∀ b, v.ownBlock = some b → U b = 0 ∧ ∀ k, ¬ T k b
  | .sv cs => ∃ vs T, v = .agg vs ∧ Tcs w U B vs.toList cs T
def CtrO (P : Program) (f : FuncId) (args : List DV) (r : RO) : Prop :=
  ∀ (vals : List Value) (U : Nat → Nat) (w : World), Rds w U vals args → Calls P f vals.toArray w fun e w' => ∃ v U', e = .returned v ∧ Below w.heap.size w w' ∧ (∀ b, b < w.heap.size → U' b = U b) ∧ RresO w' U' w.heap.size v r
theorem callO_fit {o : Oper} {σ σ' : AS} {a : Act} {w w' : World} {F : Fr} (m : Nat) (hs : St N w0 U0 σ' a w) (hF : Fits w0 U0 σ' a w F) (hfr : fresh σ' m) (hd : dOk o N = true) {v : Value} {U' : Nat → Nat} {r : RO} (h1 : Below w.heap.size w w') (h2 : ∀ b, b < w.heap.size → U' b = F.U b) (h3 : RresO w' U' w.heap.size v r) (rns : List Nat) :
    St N w0 U0 ((⟨o.dst.map fun d => (d, .ow m), (m, r.ob) :: ([] : List Nat).map (fun q => (q, Ob.no)), rns, [m]⟩ : Eff).ap σ') (a.put o.dst v) w' := by
  have hE : Ext w F.U w' U' := (Up.mk h1.block h2 : Up w F.U w' U').ext
  obtain ⟨Sm, hS1, hS2⟩ : ∃ Sm : Nat → Prop, (∀ b, Sm b → w.heap.size ≤ b) ∧ Rob w0.heap.size w' ⟨fun k => if k = m then none else F.β k, fun k => if k = m then v else F.γ k, U', fun k b => if k = m then Sm b else F.S k b⟩ m r.ob := by
    cases r with
    | tr e z rows =>
      obtain ⟨xs, T, g1, g2, g3, g4⟩ := h3
      refine ⟨fun b => v.ownBlock = some b ∨ ∃ k, T k b, fun b hb => ?_, xs, T, by simp only [↓reduceIte]; exact Rc.base g1 hs.b.size, g2.base hs.b.size, g3, fun b hb => by simp only [↓reduceIte] at hb; exact g4 b hb, fun b => by simp only [↓reduceIte]⟩
      rcases hb with hb | ⟨k, hb⟩
      · exact (g1.lt b hb).1
      · exact (g2.lt hb).1
    | sv cs =>
      obtain ⟨vs, T, g1, g2⟩ := h3
      exact ⟨fun b => ∃ k, T k b, fun b ⟨k, hb⟩ => (g2.lt hb).1, vs, T, by simp only [↓reduceIte]; exact g1, g2.base hs.b.size, fun b => by simp only [↓reduceIte]⟩
  have hfit := hF.make (m := m) (ob := r.ob) (ks := []) (γv := v) (βv := none) (Sm := Sm) (U' := U') (w' := w') (a' := a.put o.dst v) (tw := o.dst.map fun d => (d, .ow m)) hfr hE (fun b hb => h2 b (by have := hs.b.size; omega)) (fun k b _ _ _ hlt => ⟨h1.block b hlt, h2 b hlt⟩) (fun b hb => .inl (hS1 b hb)) hS2
    (hta_put hd hs.s (.ow m) _).1 (fun d v' h => by
      obtain ⟨rfl, h3⟩ := (hta_put hd hs.s (.ow m) v).2 d v' h
      rw [h3]; exact (if_pos rfl).symm) rns [m]
  exact ⟨by rw [put_defers]; exact hs.d, by rw [put_size]; exact hs.s, hs.b.trans (h1.mono hs.b.size), _, hfit⟩
theorem op_callO {o : Oper} {σ : AS} {f : FuncId} {args : Array Operand} {ats : Array TypeId} (m : Nat) (ho : o.op = .call { callee := .value (.func f), args := args, argTypes := ats }) {fn : Func} (hf : P.funcs[f]? = some fn) (hn : (fn.name == "runtime.NumGoroutine") = false) (hb : fn.body.isNone = false)
    {ds : List DV} {rns : List Nat} {r : RO} (ha : ArgsS σ args.toList ds rns) (hc : CtrO P f ds r) (hd : dOk o N = true) : OpS P N w0 U0 o σ ⟨o.dst.map fun d => (d, .ow m), (m, r.ob) :: ([] : List Nat).map (fun q => (q, Ob.no)), rns, [m]⟩ := by
  intro σ' hok a w hs K Q hK
  obtain ⟨F, hF⟩ := hs.f
  have hR := ha.get hF hok.n (fun x hx => ev_ok hok (by simp [ho, Op.operands, Call.operands]; exact .inr (by simpa using hx)))
  have hcall := hc _ F.U w hR
  unfold Oper.wp
  have hex : (execOp a.eval o).run P w = .ok (.enter f (args.toList.map a.eval).toArray) w := by
    unfold execOp
    simp only [ho, resolve, Act.eval, Deferred.ofValue, invoke, Sem.run_bind, Sem.run_pure, Result.andThen_ok]
    have e1 : (#[] ++ Array.map a.eval args ++ #[] : Array Value) = (args.toList.map a.eval).toArray := by
      apply Array.ext'
      simp
    rw [e1]
    exact run_call hf hn hb _ w
  rw [hex, Oper.upon_enter]
  refine Calls.mono hcall ?_
  rintro e w' ⟨v, U', rfl, h1, h2, h3⟩
  exact hK _ _ (callO_fit (σ := σ) m hs hF (hok.f m (by simp)) hd h1 h2 h3 rns)
theorem op_callVO {o : Oper} {σ : AS} {fo : Operand} {args : Array Operand} {ats : Array TypeId} (m : Nat) (ho : o.op = .call { callee := .value fo, args := args, argTypes := ats }) {g : FuncId} {caps : List DV} (hfo : σ.ev fo = .d (.fn g caps)) (hg : FnOk P g)
    {ds : List DV} {rns : List Nat} {r : RO} (ha : ArgsS σ args.toList ds rns) (hc : CtrO P g (ds ++ caps) r) (hd : dOk o N = true) : OpS P N w0 U0 o σ ⟨o.dst.map fun d => (d, .ow m), (m, r.ob) :: ([] : List Nat).map (fun q => (q, Ob.no)), rns, [m]⟩ := by
  obtain ⟨fn, hf, hn, hb⟩ := hg
  intro σ' hok a w hs K Q hK
  obtain ⟨F, hF⟩ := hs.f
  have hfv : Rd w F.U (a.eval fo) (.fn g caps) := ev_get hok hF (x := fo) (by simp [ho, Op.operands, Call.operands]) hfo
  obtain ⟨vs, hv, hvs⟩ : ∃ vs : Array Value, a.eval fo = .func (.func g) #[] vs ∧ Rds w F.U vs.toList caps := by
    generalize a.eval fo = v at hfv
    cases hfv with
    | fn _ vs _ h hc => exact ⟨vs, rfl, by simpa using h, hc⟩
  have hR := (ha.get hF hok.n (fun x hx => ev_ok hok (by simp [ho, Op.operands, Call.operands]; exact .inr (by simpa using hx)))).append hvs
  have hcall := hc _ F.U w hR
  unfold Oper.wp
  have hex : (execOp a.eval o).run P w = .ok (.enter g (args.toList.map a.eval ++ vs.toList).toArray) w := by
    unfold execOp
    simp only [ho, resolve, hv, Deferred.ofValue, invoke, Sem.run_bind, Sem.run_pure, Result.andThen_ok]
    have e1 : (#[] ++ Array.map a.eval args ++ vs : Array Value) = (args.toList.map a.eval ++ vs.toList).toArray := by
      apply Array.ext'
      simp
    rw [e1]
    exact run_call hf hn hb _ w
  rw [hex, Oper.upon_enter]
  refine Calls.mono hcall ?_
  rintro e w' ⟨v, U', rfl, h1, h2, h3⟩
  exact hK _ _ (callO_fit (σ := σ) m hs hF (hok.f m (by simp)) hd h1 h2 h3 rns)
/-- what a body hands to its caller as its own -/
inductive ResO (P : Program) (σ : AS) : ResultVar → RO → Prop
  | tmp {t : Tmp} {m : Nat} {e : TypeId} {z : Nat} {rows : List (List OC)} (hv : σ.t t = .ow m) (hm : σ.n m = .tr e z rows) : ResO P σ (.tmp t) (.tr e z rows)
  | tmpS {t : Tmp} {m : Nat} {cs : List OC} (hv : σ.t t = .ow m) (hm : σ.n m = .sv cs) : ResO P σ (.tmp t) (.sv cs)
  | cell {c : Tmp} {ty : TypeId} {m : Nat} {ty' : TypeId} {cs : List OC} {desc : TypeDesc} {zv : Value} {sz b : Nat} (ha : σ.t c = .pt m 0) (hm : σ.n m = .bt ty' cs) (hu : P.underlying ty = some desc) (hg : aggD desc = true) (hi : TI P ty zv sz b) (hl : Nat.beq cs.length sz = true) : ResO P σ (.cell c ty) (.sv cs)
def retO (P : Program) (rs : Array ResultVar) (r : RO) : Exit → AS → Prop
  | .normal, σ | .ret, σ => ∃ rv, rs = #[rv] ∧ ResO P σ rv r
  | _, _ => False
theorem ResO.run {σ : AS} {a : Act} {w : World} {F : Fr} (hF : Fits w0 U0 σ a w F) {rv : ResultVar} {r : RO} (h : ResO P σ rv r) : ∃ v, (resVal a rv).run P w = .ok v w ∧ RresO w F.U w0.heap.size v r := by
  cases h with
  | @tmp t m e z rows hv hm =>
    have h1 := hF.t t
    rw [hv] at h1
    have h2 := hF.n m
    rw [hm] at h2
    obtain ⟨xs, T, g1, g2, g3, g4, g5⟩ := h2
    have h1' : a.tmps.getD t undef = F.γ m := h1
    exact ⟨_, rfl, xs, T, by rw [h1']; exact g1, g2, g3, by rw [h1']; exact g4⟩
  | @tmpS t m cs hv hm =>
    have h1 := hF.t t
    rw [hv] at h1
    have h2 := hF.n m
    rw [hm] at h2
    obtain ⟨vs, T, g1, g2, g3⟩ := h2
    have h1' : a.tmps.getD t undef = F.γ m := h1
    exact ⟨_, rfl, vs, T, by rw [h1']; exact g1, g2⟩
  | @cell c ty m ty' cs desc zv sz b ha hm hu hg hi hl =>
    obtain ⟨ti, t1, _, t3, _⟩ := hi
    subst t3
    have hl' := Nat.eq_of_beq_eq_true hl
    have h1 := hF.t c
    rw [ha] at h1
    obtain ⟨g, hβ, hv⟩ := h1
    obtain ⟨vs, T, kB, kU, k3, k8, kT, kS⟩ := bt_get hF hm hβ
    have hvl := k8.l
    have hld := run_load_many (P := P) hu hg t1 (w := w) (b := g) (o := 0) (us := vs.toList) (by omega) (fun j u hu => by rw [Nat.zero_add, cell_of_row w g j vs ty' (0, 0) k3]; simpa using hu)
    refine ⟨.agg vs, ?_, vs, T, rfl, k8⟩
    simp only [resVal, hv, asAddr, Sem.run_bind, Sem.run_pure, Result.andThen_ok, hld]
theorem ctrO {f : FuncId} {fn : Func} {c : Code} {args : List DV} {r : RO} {n : Nat} {rs : Array ResultVar} {L : List (Nat × AV)} (hf : P.funcs[f]? = some fn) (hb : fn.body = some c) (hn : fn.ntmps = n) (hr : fn.results = rs) (hl : Nat.ble args.length n = true) (hL : args0 args 0 = L)
    (h : ∀ w0 U0, A P n w0 U0 c (retO P rs r) (SS L [])) : CtrO P f args r := by
  subst hn
  subst hr
  subst hL
  intro vals U w hR
  have hle := Nat.le_of_ble_eq_true hl
  have hsz : (vals.toArray ++ Array.replicate (fn.ntmps - vals.toArray.size) undef).size = fn.ntmps := by simp [hR.1]; omega
  refine calls_of_wp hf hb ((h w U).go _ _ ⟨rfl, hsz, Below.refl _ _, ⟨fun _ => none, fun _ => undef, U, fun _ _ => False⟩, fun _ _ => rfl, fun t => ?_, fun m => trivial, fun m m' b h => by cases h⟩ _ (fun e σ' a' w' hr hs' => ?_))
  · show Rav w _ (lk (args0 args 0) t) _
    rw [args0_get]
    split
    · rename_i ht
      have hl := hR.1
      have ht' : t < args.length := by simpa using ht.2
      have hv : (vals.toArray ++ Array.replicate (fn.ntmps - vals.toArray.size) undef).getD t undef = vals[t]'(by omega) := by
        rw [Array.getD_eq_getD_getElem?, Array.getElem?_append_left (by simp; omega)]
        simp [List.getElem?_eq_getElem (show t < vals.length by omega)]
      rw [hv]
      exact hR.2 t _ _ (List.getElem?_eq_getElem (by omega)) (by simp [List.getElem?_eq_getElem ht'])
    · trivial
  · have key : (∃ rv, fn.results = #[rv] ∧ ResO P σ' rv r) → a'.defers = [] ∧ ∃ v, (results fn a'.tmps).run P w' = .ok v w' ∧ ∃ v' U', Ending.returned v = .returned v' ∧ Below w.heap.size w w' ∧ (∀ b, b < w.heap.size → U' b = U b) ∧ RresO w' U' w.heap.size v' r := by
      rintro ⟨rv, hrs, hO⟩
      obtain ⟨F, hF⟩ := hs'.f
      obtain ⟨v, h1, h2⟩ := hO.run hF
      refine ⟨hs'.d, v, ?_, _, F.U, rfl, hs'.b, hF.u, h2⟩
      have hres : results fn a'.tmps = (fn.results.mapM (resVal a') >>= fun vs => pure (if h : vs.size = 1 then vs[0] else .tuple vs)) := rfl
      have hm : (fn.results.mapM (resVal a')).run P w' = .ok #[v] w' := by
        rw [hrs, Array.mapM_eq_mapM_toList]
        simp [h1]
      rw [hres, Sem.run_bind, hm]
      rfl
    cases e with
    | normal => exact key hr
    | ret => exact key hr
    | _ => exact hr.elim
end
end Go.Proofs.Yteplcjhnmmpicaa.Av
