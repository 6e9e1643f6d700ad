/- New blocks, stores, appends. Conditions: as each theorem names them. -/
import Derived.Test.YteplcjhnmmpicaaAv4
set_option linter.unusedSimpArgs false
set_option linter.unusedVariables false
namespace Go.Proofs.Yteplcjhnmmpicaa.Av
open Go Go.RowKit
section
variable {P : Program} {N : Nat} {w0 : World} {U0 : Nat → Nat}
def newF (F : Fr) (m : Nat) (bo : Option Nat) (γv : Value) (U' : Nat → Nat) : Fr := ⟨fun k => if k = m then bo else F.β k, fun k => if k = m then γv else F.γ k, U', fun k b => if k = m then bo = some b else F.S k b⟩
theorem Rav.newF {w : World} {F : Fr} {m : Nat} {bo : Option Nat} {γv : Value} {U' : Nat → Nat} {v : AV} {x : Value} (h : Rav w { F with U := U' } v x) (hs : v.says m = false) : Rav w (newF F m bo γv U') v x := by
  cases v with
  | pt m' o =>
    have hs' : (m' == m) = false := hs
    obtain ⟨b, h3, h4⟩ := h
    exact ⟨b, by show (if m' = m then bo else F.β m') = some b; rw [if_neg (by simpa using hs')]; exact h3, h4⟩
  | pe m' z i j =>
    have hs' : (m' == m) = false := hs
    obtain ⟨b, h3, h4⟩ := h
    exact ⟨b, by show (if m' = m then γv else F.γ m').ownBlock = some b; rw [if_neg (by simpa using hs')]; exact h3, h4⟩
  | ow m' =>
    have hs' : (m' == m) = false := hs
    show _ = (if m' = m then γv else F.γ m')
    rw [if_neg (by simpa using hs')]
    exact h
  | pv m' x =>
    have hs' : (m' == m) = false := hs
    obtain ⟨h5, b, h3, h4⟩ := h
    exact ⟨h5, b, by show (if m' = m then bo else F.β m') = some b; rw [if_neg (by simpa using hs')]; exact h3, h4⟩
  | pw m' x =>
    have hs' : (m' == m) = false := hs
    exact ⟨h.1, by show _ = (if m' = m then γv else F.γ m'); rw [if_neg (by simpa using hs')]; exact h.2⟩
  | _ => exact h
theorem Rob.newF {B : Nat} {w : World} {F : Fr} {m k : Nat} {bo : Option Nat} {γv : Value} {U' : Nat → Nat} {o : Ob} (h : Rob B w { F with U := U' } k o) (hne : k ≠ m) : Rob B w (newF F m bo γv U') k o :=
  Rob.same h (if_neg hne) (if_neg hne) (fun b => by show (if k = m then bo = some b else F.S k b) ↔ F.S k b; rw [if_neg hne])
/-- a new name, and one that goes -/
theorem Fits.name {σ : AS} {a : Act} {w w' : World} {F : Fr} (h : Fits w0 U0 σ a w F) {kill : Option Nat} {m : Nat} {ob : Ob} {bo : Option Nat} {γv : Value} {U' : Nat → Nat} (hf : fresh σ m) (hE : Ext w F.U w' U') (hu : ∀ b, b < w0.heap.size → U' b = F.U b)
    (hk : ∀ k b, (σ.n k).live = true → some k ≠ kill → F.S k b → b < w.heap.size → w'.heap[b]? = w.heap[b]? ∧ U' b = F.U b) (hne : ∀ k b, (σ.n k).live = true → some k ≠ kill → F.S k b → bo ≠ some b)
    (hob : Rob w0.heap.size w' (newF F m bo γv U') m ob) {o : Oper} (hd : dOk o N = true) (hN : a.tmps.size = N) {av : AV} {v : Value} (hv : Rav w' (newF F m bo γv U') av v) (rn : List Nat) :
    Fits w0 U0 ((⟨o.dst.map fun d => (d, av), (m, ob) :: kill.toList.map (fun k => (k, Ob.no)), rn, [m]⟩ : Eff).ap σ) (a.put o.dst v) w' (newF F m bo γv U') := by
  have hold : ∀ t, Rav w' (newF F m bo γv U') (σ.t t) (a.tmps.getD t undef) := fun t => ((h.t t).ext hE).newF (hf.2 t)
  have hn : ∀ k, ((⟨o.dst.map fun d => (d, av), (m, ob) :: kill.toList.map (fun k => (k, Ob.no)), rn, [m]⟩ : Eff).ap σ).n k = if k = m then ob else if some k = kill then .no else σ.n k := by
    intro k
    show (((bif Nat.beq m k then some ob else nwGet (kill.toList.map (fun k => (k, Ob.no))) k)).getD (σ.n k)) = _
    by_cases hkm : k = m
    · subst hkm; rw [Nat.beq_refl, if_pos rfl]; rfl
    · rw [nbeq (Ne.symm hkm), if_neg hkm]
      cases kill with
      | none => rfl
      | some q =>
        show ((bif Nat.beq q k then some Ob.no else none).getD (σ.n k)) = _
        by_cases hkq : q = k
        · subst hkq; rw [Nat.beq_refl, if_pos rfl]; rfl
        · rw [nbeq hkq, if_neg (by simpa using Ne.symm hkq)]; rfl
  refine ⟨fun b hb => (hu b hb).trans (h.u b hb), fun t => ?_, fun k => ?_, fun k k' b h1 h2 h3 h4 => ?_⟩
  · cases hdd : o.dst with
    | none => exact hold t
    | some d =>
      rw [put_get (by unfold dOk at hd; rw [hdd] at hd; simp only at hd; have := Nat.le_of_ble_eq_true hd; omega)]
      show Rav w' _ (bif Nat.beq d t then av else σ.t t) _
      by_cases he : d = t
      · subst he; rw [Nat.beq_refl, if_pos rfl]; exact hv
      · rw [nbeq he, if_neg he]; exact hold t
  · rw [hn]
    by_cases hkm : k = m
    · rw [if_pos hkm, hkm]; exact hob
    · rw [if_neg hkm]
      by_cases hkk : some k = kill
      · rw [if_pos hkk]; trivial
      · rw [if_neg hkk]
        refine Rob.newF ?_ hkm
        cases hl : (σ.n k).live with
        | false =>
          cases hq : σ.n k with
          | no => trivial
          | _ => rw [hq] at hl; cases hl
        | true => exact (h.n k).ext hE (fun b hb hlt => hk k b hl hkk hb hlt)
  · rw [hn] at h1 h2
    have h3' : (if k = m then bo = some b else F.S k b) := h3
    have h4' : (if k' = m then bo = some b else F.S k' b) := h4
    by_cases e1 : k = m
    · by_cases e2 : k' = m
      · rw [e1, e2]
      · exfalso
        rw [if_neg e2] at h2 h4'
        rw [if_pos e1] at h3'
        by_cases hkk : some k' = kill
        · rw [if_pos hkk] at h2; cases h2
        · rw [if_neg hkk] at h2
          exact hne k' b h2 hkk h4' h3'
    · rw [if_neg e1] at h1 h3'
      by_cases hkk : some k = kill
      · rw [if_pos hkk] at h1; cases h1
      · rw [if_neg hkk] at h1
        by_cases e2 : k' = m
        · exfalso
          rw [if_pos e2] at h4'
          exact hne k b h1 hkk h3' h4'
        · rw [if_neg e2] at h2 h4'
          by_cases hkk' : some k' = kill
          · rw [if_pos hkk'] at h2; cases h2
          · rw [if_neg hkk'] at h2
            exact h.i k k' b h1 h2 h3' h4'
/-- what a live name owns lies in the heap -/
theorem live_lt {σ : AS} {a : Act} {w : World} {F : Fr} (h : Fits w0 U0 σ a w F) {k b : Nat} (hl : (σ.n k).live = true) (hb : F.S k b) : b < w.heap.size := ((h.n k).lt hl hb).2
/-- a new box -/
theorem op_new {o : Oper} {σ : AS} {m : Nat} {ty : TypeId} {cs : List DV} (hd : dOk o N = true)
    (h : ∀ σ', (⟨o.dst.map fun d => (d, .pt m 0), [(m, .bx ty cs)], [], [m]⟩ : Eff).ok o σ σ' → ∀ a w F, Fits w0 U0 σ' a w F → ∃ vs : Array Value, (execOp a.eval o).run P w = .ok (.value (.pointer (some ⟨w.heap.size, 0, none⟩))) (w.alloc (.cells vs ty)) ∧ Rc w F.U vs.toList cs) :
    OpS P N w0 U0 o σ ⟨o.dst.map fun d => (d, .pt m 0), [(m, .bx ty cs)], [], [m]⟩ := by
  intro σ' hok a w hs K Q hK
  obtain ⟨F, hF⟩ := hs.f
  obtain ⟨vs, hr, hc⟩ := h σ' hok a w F hF
  obtain ⟨U', hU'⟩ : ∃ U' : Nat → Nat, U' = fun b => if b = w.heap.size then 0 else F.U b := ⟨_, rfl⟩
  have hU1 : U' w.heap.size = 0 := by rw [hU']; simp
  have hU2 : ∀ b, b < w.heap.size → U' b = F.U b := fun b hb => by rw [hU']; simp; intro h; omega
  have hE : Ext w F.U (w.alloc (.cells vs ty)) U' := Up.ext ⟨fun b hlt => Below.heap_alloc w _ b hlt, hU2⟩
  have hβ : (newF F m (some w.heap.size) undef U').β m = some w.heap.size := if_pos rfl
  have hob : Rob w0.heap.size (w.alloc (.cells vs ty)) (newF F m (some w.heap.size) undef U') m (.bx ty cs) := ⟨w.heap.size, vs, hβ, hs.b.size, hU1, Go.heap_alloc_new w _, hc.ext hE, fun b' => by show (if m = m then some w.heap.size = some b' else _) ↔ _; rw [if_pos rfl]; exact ⟨fun h => by injection h with h; exact h.symm, fun h => by rw [h]⟩⟩
  have hav : Rav (w.alloc (.cells vs ty)) (newF F m (some w.heap.size) undef U') (.pt m 0) (.pointer (some ⟨w.heap.size, 0, none⟩)) := ⟨w.heap.size, hβ, rfl⟩
  have hfit := hF.name (kill := none) (bo := some w.heap.size) (γv := undef) (U' := U') (hok.f m (by simp)) hE (fun b hb => by have := hs.b.size; exact hU2 b (by omega)) (fun k b hl _ hb hlt => ⟨Below.heap_alloc w _ b hlt, hU2 b hlt⟩)
      (fun k b hl _ hb e => by have := live_lt hF hl hb; injection e with e; omega) hob hd hs.s hav []
  unfold Oper.wp
  rw [hr]
  exact hK _ _ ⟨by rw [put_defers]; exact hs.d, by rw [put_size]; exact hs.s, hs.b.alloc hs.b.size _, _, hfit⟩
def dvCells : DV → List DV
  | .ag cs => cs
  | x => [x]
def DV.one : DV → Bool
  | .fl x => x.oneCell'
  | _ => true
theorem cells_of {w : World} {U : Nat → Nat} {v : Value} {x : DV} (h : Rd w U v x) (h1 : x.one = true) : Rc w U v.cells.toList (dvCells x) := by
  cases h with
  | fl =>
    have hc : v.cells = #[v] := by cases v <;> first | rfl | (cases h1)
    rw [hc]
    exact ⟨Rds.cons (.fl v) Rds.nil, fun u hu => by simp at hu; subst hu; exact h1⟩
  | ag vs cs h ho hc => exact ⟨⟨h, hc⟩, ho⟩
  | el b off cs u hcell hr => exact ⟨Rds.cons (.el b off cs u hcell hr) Rds.nil, fun u hu => by simp [Value.cells] at hu; subst hu; rfl⟩
  | fn f vs cs h hc => exact ⟨Rds.cons (.fn f vs cs h hc) Rds.nil, fun u hu => by simp [Value.cells] at hu; subst hu; rfl⟩
  | mp r es c ents hb hu hl hk hv => exact ⟨Rds.cons (.mp r es c ents hb hu hl hk hv) Rds.nil, fun u hu => by simp [Value.cells] at hu; subst hu; rfl⟩
  | sn A c z => exact ⟨Rds.cons (.sn A c z) Rds.nil, fun u hu => by simp [Value.cells] at hu; subst hu; rfl⟩
  | sl b off n c z rows u hn hz hm hcell hr => exact ⟨Rds.cons (.sl b off n c z rows u hn hz hm hcell hr) Rds.nil, fun u hu => by simp [Value.cells] at hu; subst hu; rfl⟩
theorem op_box {o : Oper} {σ : AS} {ty : TypeId} {x : Operand} (m : Nat) (ho : o.op = .box ty x) {v : DV} (hx : σ.ev x = .d v) (h1 : v.one = true) (hd : dOk o N = true) : OpS P N w0 U0 o σ ⟨o.dst.map fun d => (d, .pt m 0), [(m, .bx ty (dvCells v))], [], [m]⟩ :=
  op_new hd fun σ' hok a w F hF => by
    have h2 : Rd w F.U (a.eval x) v := ev_get hok hF (x := x) (by simp [ho, Op.operands]) hx
    refine ⟨(a.eval x).cells, ?_, cells_of h2 h1⟩
    simp [execOp, ho, Instr.box, newVar, newRow, newObj, Sem.run]
def zeroDV (v : Value) : List DV := v.cells.toList.map .fl
theorem op_alloc {o : Oper} {σ : AS} {ty : TypeId} (m : Nat) (ho : o.op = .alloc ty) {i : TypeInfo} (hi : P.info? ty = some i) {z : Value} (hz : i.zero = some z) (h1 : (z.cells.all fun u => u.oneCell') = true) (hd : dOk o N = true) : OpS P N w0 U0 o σ ⟨o.dst.map fun d => (d, .pt m 0), [(m, .bx ty (zeroDV z))], [], [m]⟩ :=
  op_new hd fun σ' hok a w F hF => by
    refine ⟨z.cells, ?_, ⟨by simp [zeroDV], fun j u x hu hx => ?_⟩, fun u hu => ?_⟩
    · simp [execOp, ho, Instr.alloc, zeroValue, typeInfo, hi, hz, newVar, newRow, newObj, Sem.run]
    · unfold zeroDV at hx
      rw [List.getElem?_map, hu] at hx
      simp at hx
      subst hx
      exact .fl u
    · exact Array.all_eq_true_iff_forall_mem.1 h1 u (by simpa using hu)
theorem box_S {σ : AS} {a : Act} {w : World} {F : Fr} (hF : Fits w0 U0 σ a w F) {m : Nat} {ty : TypeId} {cs : List DV} (h : σ.n m = .bx ty cs) {b : Nat} (hb : F.β m = some b) : F.S m b := by
  have := hF.n m
  rw [h] at this
  obtain ⟨b2, _, k1, _, _, _, _, k2⟩ := this
  rw [hb] at k1
  injection k1 with k1
  exact (k2 b).2 k1
/-! ### stores -/
theorem Rc.splice {w : World} {U : Nat → Nat} {vs us : List Value} {cs ds : List DV} (h : Rc w U vs cs) (k : Rc w U us ds) (p : Nat) : Rc w U (vs.take p ++ us ++ vs.drop (p + us.length)) (cs.take p ++ ds ++ cs.drop (p + ds.length)) := by
  have ht : ∀ n, Rc w U (vs.take n) (cs.take n) := fun n => ⟨⟨by simp [h.1.1], fun j u x h1 h2 => by
    rw [List.getElem?_take] at h1 h2
    split at h1
    · rename_i hj; rw [if_pos hj] at h2; exact h.1.2 j u x h1 h2
    · cases h1⟩, fun u hu => h.2 u (List.mem_of_mem_take hu)⟩
  have hdr : ∀ n, Rc w U (vs.drop n) (cs.drop n) := fun n => ⟨⟨by simp [h.1.1], fun j u x h1 h2 => by
    rw [List.getElem?_drop] at h1 h2
    exact h.1.2 _ u x h1 h2⟩, fun u hu => h.2 u (List.mem_of_mem_drop hu)⟩
  rw [k.1.1]
  exact ((ht p).append k).append (hdr _)
theorem op_store {o : Oper} {σ : AS} {t : TypeId} {x y : Operand} (ho : o.op = .store t x y) (hdn : o.dst = none) {i : TypeInfo} (hi : P.info? t = some i) {m p : Nat} (hx : σ.ev x = .pt m p) {ty : TypeId} {cs : List DV} (hm : σ.n m = .bx ty cs) {v : DV} (hy : σ.ev y = .d v) (h1 : v.one = true)
    (hsz : (dvCells v).length = i.size) (hl : p + i.size ≤ cs.length) : OpS P N w0 U0 o σ ⟨none, [(m, .bx ty (cs.take p ++ dvCells v ++ cs.drop (p + (dvCells v).length)))], [m], []⟩ := by
  intro σ' hok a w hs K Q hK
  obtain ⟨F, hF⟩ := hs.f
  obtain ⟨b, hb, hpx⟩ := ev_get hok hF (x := x) (by simp [ho, Op.operands]) hx
  have hvy : Rd w F.U (a.eval y) v := ev_get hok hF (x := y) (by simp [ho, Op.operands]) hy
  have hm' : σ'.n m = .bx ty cs := by rw [hok.n m (by simp)]; exact hm
  obtain ⟨hB, hU, vs, hh, hc⟩ := box_get hF hm' hb
  have hcv := cells_of hvy h1
  have hlen : (a.eval y).cells.toList.length = i.size := by rw [hcv.1.1, hsz]
  have hst := run_storeCells_at (P := P) b p ty (a.eval y).cells.toList 0 vs w hh (by have := hc.1.1; simp at this hlen ⊢; omega) hcv.2
  have hrun : (storeVar t ⟨b, p, none⟩ (a.eval y)).run P w = .ok () (w.setRow b (vs.toList.take (p + 0) ++ (a.eval y).cells.toList ++ vs.toList.drop (p + 0 + (a.eval y).cells.toList.length)).toArray) := by
    unfold storeVar
    rw [Sem.run_bind]
    have hso : (sizeOf t).run P w = .ok i.size w := by simp [sizeOf, typeInfo, hi]
    rw [hso]
    have hne : ¬ ((a.eval y).cells.size ≠ i.size) := by simp at hlen; simp [hlen]
    simp only [Result.andThen_ok]
    rw [if_neg hne]
    simpa using hst
  have hE : Ext w F.U (w.setRow b (vs.toList.take (p + 0) ++ (a.eval y).cells.toList ++ vs.toList.drop (p + 0 + (a.eval y).cells.toList.length)).toArray) F.U := ⟨fun b' o' u hcu ho' => by
    by_cases hbb : b' = b
    · subst hbb; omega
    · exact ⟨(cell_setRow_other w b _ ⟨b', o', none⟩ hbb).trans hcu, ho'⟩, fun r es c hr hu => ⟨setRow_other w b r _ (fun e => by subst e; omega), rfl⟩⟩
  unfold Oper.wp
  have hex : (execOp a.eval o).run P w = .ok .skip (w.setRow b (vs.toList.take (p + 0) ++ (a.eval y).cells.toList ++ vs.toList.drop (p + 0 + (a.eval y).cells.toList.length)).toArray) := by
    simp only [execOp, ho, Instr.storeAt, Instr.sureAddr, hpx, Sem.run_bind, Sem.run_pure, Result.andThen_ok, hrun]
  rw [hex, Oper.upon_skip, hdn]
  have hlive : (σ'.n m).live = true := by rw [hm']; rfl
  have hbl : b < w.heap.size := (Array.getElem?_eq_some_iff.1 hh).1
  refine hK _ _ ⟨hs.d, hs.s, hs.b.trans ⟨rfl, rfl, rfl, by simp, fun k hk => setRow_other w b k _ (by omega)⟩, F, hF.u, fun t => (hF.t t).ext hE, fun k => ?_, fun k k' b' g1 g2 g3 g4 => ?_⟩
  · show Rob _ _ F k ((bif Nat.beq m k then some _ else none).getD (σ'.n k))
    by_cases hkm : m = k
    · subst hkm
      rw [Nat.beq_refl]
      refine ⟨b, _, hb, hB, hU, setRow_heap w b vs _ ty (0, 0) hh, ?_, fun b' => ?_⟩
      · have := (hc.splice hcv p).ext hE
        simpa using this
      · have := hF.n m
        rw [hm'] at this
        obtain ⟨b2, _, k1, _, _, _, _, k2⟩ := this
        rw [hb] at k1
        injection k1 with k1
        rw [k1]; exact k2 b'
    · rw [nbeq hkm]
      show Rob _ _ F k (σ'.n k)
      cases hl : (σ'.n k).live with
      | false =>
        cases hq : σ'.n k with
        | no => trivial
        | _ => rw [hq] at hl; cases hl
      | true =>
        refine (hF.n k).ext (U' := F.U) hE (fun b' hb' hlt => ⟨setRow_other w b b' _ (fun e => ?_), rfl⟩)
        subst e
        exact hkm (hF.i m k b' hlive hl (box_S hF hm' hb) hb')
  · have hn : ∀ j, (((⟨none, [(m, .bx ty (cs.take p ++ dvCells v ++ cs.drop (p + (dvCells v).length)))], [m], []⟩ : Eff).ap σ').n j).live = true → (σ'.n j).live = true := by
      intro j hj
      have hj' : (((bif Nat.beq m j then some (.bx ty (cs.take p ++ dvCells v ++ cs.drop (p + (dvCells v).length))) else none : Option Ob)).getD (σ'.n j)).live = true := hj
      by_cases hkm : m = j
      · subst hkm; exact hlive
      · rw [nbeq hkm] at hj'; exact hj'
    exact hF.i k k' b' (hn k g1) (hn k' g2) g3 g4
/-! ### what an operand reads as, a row of the call's own too -/
def Cv (x y : DV) : Prop := ∀ (w : World) (U : Nat → Nat) (v : Value), Rd w U v x → Rd w U v y
def CvL : List DV → List DV → Prop
  | [], [] => True
  | x :: xs, y :: ys => Cv x y ∧ CvL xs ys
  | _, _ => False
theorem Cv.refl (x : DV) : Cv x x := fun _ _ _ h => h
theorem Cv.nil (z : Nat) : Cv (.fl (.slice none 0 0)) (.sl z []) := fun w U v h => by cases h; exact .sn none 0 z
theorem Cv.ag {xs ys : List DV} (h : CvL xs ys) : Cv (.ag xs) (.ag ys) := fun w U v hv => by
  have hl : ∀ xs ys, CvL xs ys → xs.length = ys.length ∧ ∀ (j : Nat) y, ys[j]? = some y → ∃ x, xs[j]? = some x ∧ Cv x y := by
    intro xs
    induction xs with
    | nil =>
      intro ys h
      cases ys with
      | nil => exact ⟨rfl, fun j y h => by simp at h⟩
      | cons => exact h.elim
    | cons x xs ih =>
      intro ys h
      cases ys with
      | nil => exact h.elim
      | cons y ys =>
        obtain ⟨h1, h2⟩ := ih ys h.2
        refine ⟨by simp [h1], fun j y' hj => ?_⟩
        cases j with
        | zero => simp at hj; subst hj; exact ⟨x, rfl, h.1⟩
        | succ j => simpa using h2 j y' (by simpa using hj)
  obtain ⟨h1, h2⟩ := hl xs ys h
  cases hv with
  | ag vs _ hs ho hc =>
    refine .ag vs ys (by omega) ho (fun j u y hu hy => ?_)
    obtain ⟨x, hx, hcv⟩ := h2 j y hy
    exact hcv w U u (hc j u x hu hx)
inductive AvD (σ : AS) : AV → DV → List Nat → Prop
  | d (x : DV) : AvD σ (.d x) x []
  | cv {x y : DV} (h : Cv x y) : AvD σ (.d x) y []
  | ow {m : Nat} {e : TypeId} {z : Nat} {rows : List (List DV)} (h : σ.n m = .ow e z rows) : AvD σ (.ow m) (.sl z rows) [m]
theorem flatten_get {z : Nat} : ∀ {rows : List (List DV)}, (∀ r ∈ rows, r.length = z) → ∀ {i j : Nat} {r : List DV} {x : DV}, rows[i]? = some r → r[j]? = some x → rows.flatten[i * z + j]? = some x ∧ i * z + j < rows.length * z := by
  intro rows
  induction rows with
  | nil => intro _ i j r x h; simp at h
  | cons r0 rows ih =>
    intro hz i j r x hr hx
    have h0 := hz r0 (by simp)
    have hj : j < r.length := (List.getElem?_eq_some_iff.1 hx).1
    have hrz := hz r (List.mem_of_getElem? hr)
    cases i with
    | zero =>
      simp at hr
      subst hr
      have : rows.length * z + z = (rows.length + 1) * z := by rw [Nat.succ_mul]
      refine ⟨by simp only [List.flatten_cons]; rw [Nat.zero_mul, Nat.zero_add, List.getElem?_append_left hj]; exact hx, by simp only [List.length_cons]; rw [← this]; omega⟩
    | succ i =>
      obtain ⟨h1, h2⟩ := ih (fun r hr => hz r (by simp [hr])) (i := i) (by simpa using hr) hx
      have e1 : (i + 1) * z = i * z + z := Nat.succ_mul i z
      have e2 : (rows.length + 1) * z = rows.length * z + z := Nat.succ_mul _ z
      refine ⟨?_, by simp only [List.length_cons]; omega⟩
      simp only [List.flatten_cons]
      rw [List.getElem?_append_right (by omega)]
      rw [show (i + 1) * z + j - r0.length = i * z + j by omega]
      exact h1
theorem own_reads {B : Nat} {w : World} {F : Fr} {m : Nat} {e : TypeId} {z : Nat} {rows : List (List DV)} (h : Rob B w F m (.ow e z rows)) : Rd w F.U (F.γ m) (.sl z rows) := by
  obtain ⟨xs, h1, h2, h3, h4, h5⟩ := h
  rcases h1.2 with ⟨hv, hn⟩ | ⟨g, cap, cur, hv, hg, hh, hnc, hcm, hcs, htake⟩
  · have hr : rows = [] := List.eq_nil_of_length_eq_zero hn
    subst hr
    rw [hv]
    exact .sn none 0 z
  · have hU := h5 g (by rw [h4, hv]; rfl)
    rw [hv]
    refine .sl g 0 rows.length cap z rows (fun i j => xs.getD (i * z + j) undef) rfl h3 ⟨by unfold maxLen at hcm; omega, by omega⟩ (fun i j x hx => ?_) (fun i j x hx => ?_)
    · unfold cellAt at hx
      obtain ⟨r, hr, hj⟩ := Option.bind_eq_some_iff.1 hx
      obtain ⟨g1, g2⟩ := flatten_get h3 hr hj
      have hlt : i * z + j < xs.length := by rw [h2.1.1]; exact (List.getElem?_eq_some_iff.1 g1).1
      have hu : xs[i * z + j]? = some (xs.getD (i * z + j) undef) := by simp [List.getD, List.getElem?_eq_getElem hlt]
      refine ⟨?_, by rw [hU, Nat.zero_add]; exact g2, h2.2 _ (List.mem_of_getElem? hu)⟩
      have := h1.cells (g := g) (by rw [hv]; rfl) _ _ hu
      rw [add_plain'] at this
      rw [Nat.zero_add] at this ⊢
      exact this
    · unfold cellAt at hx
      obtain ⟨r, hr, hj⟩ := Option.bind_eq_some_iff.1 hx
      obtain ⟨g1, g2⟩ := flatten_get h3 hr hj
      have hlt : i * z + j < xs.length := by rw [h2.1.1]; exact (List.getElem?_eq_some_iff.1 g1).1
      have hu : xs[i * z + j]? = some (xs.getD (i * z + j) undef) := by simp [List.getD, List.getElem?_eq_getElem hlt]
      exact h2.1.2 _ _ _ hu g1
theorem AvD.get {σ σ' : AS} {a : Act} {w : World} {F : Fr} (hF : Fits w0 U0 σ' a w F) {v : AV} {x : DV} {rn : List Nat} (h : AvD σ v x rn) (hrn : ∀ m ∈ rn, σ'.n m = σ.n m) {u : Value} (hu : Rav w F v u) : Rd w F.U u x := by
  cases h with
  | d x => exact hu
  | cv h => exact h w F.U u hu
  | ow h =>
    rename_i m e z rows
    have := hF.n m
    rw [hrn m (by simp), h] at this
    have hu' : u = F.γ m := hu
    rw [hu']
    exact own_reads this
end
end Go.Proofs.Yteplcjhnmmpicaa.Av
