/- An evaluator for code whose data are all known. Conditions: as each theorem names them. -/
import Derived.Test.YtobgdemhadlgnaaEvA
import Derived.Laws.IdiomStrings
set_option linter.unusedSimpArgs false
set_option linter.unusedVariables false
namespace Go.Proofs.Ytobgdemhadlgnaa.Ev
open Go Go.RowKit
section
variable {P : Program} {N : Nat} {w0 : World} {D : Dom}
/-- a new row of cells -/
theorem opS_new {o : Oper} {σ : AS} {k : Nat} {cs : List XV} {ty : TypeId} {opn : Bool} {x : XV} {rn : List Nat} (hd : dOk o N = true)
    (h : ∀ σ', (Res.eff { x := x, nw := [(k, .c cs ty opn)], rn := rn, fr := [k] } o).ok o σ σ' → ∀ a w β, Fits w0 D σ' a w β → ∃ (us tl : List Value) (fz : Nat × Nat) (w1 : World) (v : Value), w1.heap = w.heap ∧ w1.os = w.os ∧ w1.tape = w.tape ∧ w1.output = w.output ∧
      (execOp a.eval o).run P w = .ok (.value v) (w1.alloc (.cells (us ++ tl).toArray ty fz)) ∧ (∀ j, j < us.length + tl.length → ¬ (fz.1 ≤ j ∧ j < fz.2)) ∧ Rxs β cs us ∧ (opn = false → tl = []) ∧ ∀ β', Sub β β' → β' k = some (w.heap.size, us.length + tl.length) → Rx β' x v) :
    OpS P N w0 D o σ (Res.eff { x := x, nw := [(k, .c cs ty opn)], rn := rn, fr := [k] } o) := by
  intro σ' hok a w hs K Q hK
  obtain ⟨β, hF⟩ := hs.f
  obtain ⟨us, tl, fz, w1, v, h1, h2, h3, h4, hr, hz, hc, ht, hv⟩ := h σ' hok a w β hF
  first | refine owp_v (hr) ?_ | refine owp_s (hr) ?_
  refine hK _ _ (hs.new (w' := w1.alloc (.cells (us ++ tl).toArray ty fz)) (obj := .cells (us ++ tl).toArray ty fz) (z := us.length + tl.length) (ob := .c cs ty opn) hF (hok.f k (by simp [Res.eff])) rfl h2 h3 h4 (by show w1.heap.push _ = _; rw [h1]) (fun β' hβ hk => ?_) hd (fun β' hβ hk => hv β' hβ hk) rn)
  refine ⟨_, us, tl, fz, hk, ?_, rfl, hz, hc.mono hβ, ht⟩
  have := Go.heap_alloc_new w1 (.cells (us ++ tl).toArray ty fz)
  rw [h1] at this
  exact this
theorem no_fz (n : Nat) : ∀ j, j < n → ¬ ((0, 0).1 ≤ j ∧ j < (0, 0).2) := fun j _ h => by simp at h
def zeroX (z : Value) : Option (List XV) := bif z.cells.toList.all (·.oneCell') then some (z.cells.toList.map .v) else none
theorem rxs_v (β : Nat → Option (Nat × Nat)) : ∀ l : List Value, Rxs β (l.map .v) l := rxs_map fun _ => rx_v.2 rfl
def xAlloc (P : Program) (k : Nat) (ty : TypeId) : Option Res :=
  match (P.info? ty).bind (·.zero) with
  | some z => match zeroX z with
    | some cs => some { x := .p k 0, nw := [(k, .c cs ty false)], fr := [k] }
    | none => none
  | none => none
theorem info_zero {ty : TypeId} {z : Value} (h : (P.info? ty).bind (·.zero) = some z) : ∃ i, P.info? ty = some i ∧ i.zero = some z := by
  cases hi : P.info? ty with
  | none => rw [hi] at h; cases h
  | some i => rw [hi] at h; exact ⟨i, rfl, h⟩
theorem zeroX_eq {z : Value} {cs : List XV} (h : zeroX z = some cs) : cs = z.cells.toList.map .v := by
  unfold zeroX at h
  cases hc : z.cells.toList.all (·.oneCell') with
  | false => rw [hc] at h; cases h
  | true => rw [hc] at h; injection h with h; exact h.symm
theorem alloc_ok {o : Oper} {σ : AS} {ty : TypeId} {k : Nat} (ho : o.op = .alloc ty) {r : Res} (h : xAlloc P k ty = some r) (hd : dOk o N = true) : OpS P N w0 D o σ (r.eff o) := by
  unfold xAlloc at h
  split at h
  · rename_i z hz
    split at h
    · rename_i cs hcs
      injection h with h
      subst h
      obtain ⟨i, h1, h2⟩ := info_zero hz
      refine opS_new hd fun σ' hok a w β hF => ⟨z.cells.toList, [], (0, 0), w, .pointer (some ⟨w.heap.size, 0, none⟩), rfl, rfl, rfl, rfl, ?_, no_fz _, by rw [zeroX_eq hcs]; exact rxs_v β _, fun _ => rfl, fun β' hβ hk => rx_p.2 ⟨_, hk, rfl⟩⟩
      simp [execOp, ho, Instr.alloc, zeroValue, typeInfo, h1, h2, newVar, newRow, newObj, Sem.run]
    · cases h
  · cases h
def xBox (k : Nat) (ty : TypeId) (c : XV) : Option Res :=
  match cellsX c with
  | some cs => some { x := .p k 0, nw := [(k, .c cs ty false)], fr := [k] }
  | none => none
theorem box_ok {o : Oper} {σ : AS} {ty : TypeId} {x : Operand} {k : Nat} (ho : o.op = .box ty x) {c : XV} (hx : σ.ev x = some c) {r : Res} (h : xBox k ty c = some r) (hd : dOk o N = true) : OpS P N w0 D o σ (r.eff o) := by
  unfold xBox at h
  split at h
  · rename_i cs hcs
    injection h with h
    subst h
    refine opS_new hd fun σ' hok a w β hF => ?_
    obtain ⟨h1, h2⟩ := cellsX_rx hcs (ev_get hok hF (x := x) (by simp [ho, Op.operands]) hx)
    refine ⟨(a.eval x).cells.toList, [], (0, 0), w, .pointer (some ⟨w.heap.size, 0, none⟩), rfl, rfl, rfl, rfl, ?_, no_fz _, h1, fun _ => rfl, fun β' hβ hk => rx_p.2 ⟨_, hk, rfl⟩⟩
    simp [execOp, ho, Instr.box, newVar, newRow, newObj, Sem.run]
  · cases h
/-! ### parts -/
theorem fold_splice (off : Nat) : ∀ (l : List Value) (k : Nat) (acc : Array Value), off + k + l.length ≤ acc.size →
    ((l.zipIdx k).foldl (fun cs (p : Value × Nat) => cs.setIfInBounds (off + p.2) p.1) acc) = (acc.toList.take (off + k) ++ l ++ acc.toList.drop (off + k + l.length)).toArray := by
  intro l
  induction l with
  | nil => intro k acc _; simp
  | cons v l ih =>
    intro k acc h
    simp only [List.length_cons] at h
    simp only [List.zipIdx_cons, List.foldl_cons]
    rw [ih (k + 1) _ (by simp; omega)]
    congr 1
    have := list_seg acc.toList (off + k) v l (by simp; omega)
    simpa [Array.toList_setIfInBounds, Nat.add_assoc] using this
def fillX (place : Nat → Option (Nat × Nat)) : List XV → List (Nat × XV) → Option (List XV)
  | cs, [] => some cs
  | cs, (i, x) :: r => match place i with
    | some (off, s) => match cellsX x with
      | some ds => bif Nat.beq ds.length s && Nat.ble (off + s) cs.length then fillX place (spliceX cs off ds) r else none
      | none => none
    | none => none
def PR (β : Nat → Option (Nat × Nat)) : List (Nat × XV) → List (Nat × Value) → Prop
  | [], ps => ps = []
  | (i, x) :: r, ps => ∃ v q, ps = (i, v) :: q ∧ Rx β x v ∧ PR β r q
theorem fill_rx {β : Nat → Option (Nat × Nat)} {place : Nat → Option (Nat × Nat)} : ∀ {ps : List (Nat × XV)} {qs : List (Nat × Value)} {cs cs' : List XV} {cells : Array Value}, fillX place cs ps = some cs' → PR β ps qs → Rxs β cs cells.toList → ∃ cells', Instr.fill place cells qs = some cells' ∧ Rxs β cs' cells'.toList
  | [], qs, cs, cs', cells, h, hp, hc => by
    have h' : some cs = some cs' := h
    injection h' with h'
    have hp' : qs = [] := hp
    subst h' hp'
    exact ⟨cells, rfl, hc⟩
  | (i, x) :: r, qs, cs, cs', cells, h, hp, hc => by
    obtain ⟨v, q, rfl, hx, hr⟩ := hp
    unfold fillX at h
    cases hpl : place i with
    | none => rw [hpl] at h; cases h
    | some y =>
      obtain ⟨off, s⟩ := y
      rw [hpl] at h
      simp only at h
      cases hds : cellsX x with
      | none => rw [hds] at h; cases h
      | some ds =>
        rw [hds] at h
        simp only at h
        cases hcn : (Nat.beq ds.length s && Nat.ble (off + s) cs.length) with
        | false => rw [hcn] at h; cases h
        | true =>
          rw [hcn, cond_true] at h
          simp only [Bool.and_eq_true] at hcn
          have c1 := Nat.eq_of_beq_eq_true hcn.1
          have c2 := Nat.le_of_ble_eq_true hcn.2
          obtain ⟨h1, h2⟩ := cellsX_rx hds hx
          have l1 := h1.len
          have l2 := hc.len
          have hvl : v.cells.size = s := by simp at l1; omega
          have hsz : cells.size = cs.length := by simpa using l2
          have hfold := fold_splice off v.cells.toList 0 cells (by simp; omega)
          simp only [Nat.add_zero] at hfold
          have hzip : v.cells.zipIdx.toList = v.cells.toList.zipIdx := Array.toList_zipIdx
          have hsp : Rxs β (spliceX cs off ds) ((cells.toList.take off ++ v.cells.toList ++ cells.toList.drop (off + v.cells.toList.length)).toArray).toList := by
            have := ((hc.take off).append h1).append (hc.drop (off + ds.length))
            unfold spliceX
            rw [show v.cells.toList.length = ds.length by simp; omega]
            simpa using this
          obtain ⟨cells', g1, g2⟩ := fill_rx h hr hsp
          refine ⟨cells', ?_, g2⟩
          have hcond : (v.cells.size ≠ s || off + v.cells.size > cells.size) = false := by
            have h2 : ¬ (off + s > cells.size) := by omega
            simp [hvl]
            omega
          simp only [Instr.fill, hpl]
          rw [← Array.foldl_toList, hzip]
          have hfold' : (v.cells.toList.zipIdx.foldl (fun cs x => match x with | (c, j) => cs.setIfInBounds (off + j) c) cells) = _ := hfold
          rw [hfold', ← g1]
          rw [if_neg (by rw [hcond]; simp)]
def evP (ev : Operand → Option XV) (p : Nat × Operand) : Option (Nat × XV) := match ev p.2 with | some x => some (p.1, x) | none => none
theorem parts_rx {o : Oper} {σ σ' : AS} {e : Eff} {a : Act} {w : World} {β : Nat → Option (Nat × Nat)} (hok : e.ok o σ σ') (hF : Fits w0 D σ' a w β) : ∀ {ps : List (Nat × Operand)} {xs : List (Nat × XV)}, mapO (evP σ.ev) ps = some xs → (∀ p ∈ ps, p.2 ∈ o.op.operands) → PR β xs (ps.map fun p => (p.1, a.eval p.2))
  | [], xs, h, _ => by
    have h' : some [] = some xs := h
    injection h' with h'
    subst h'; rfl
  | p :: ps, xs, h, hm => by
    unfold mapO at h
    cases hp : evP σ.ev p with
    | none => rw [hp] at h; cases h
    | some y =>
      rw [hp] at h
      simp only at h
      cases hr : mapO (evP σ.ev) ps with
      | none => rw [hr] at h; cases h
      | some r =>
        rw [hr] at h
        injection h with h
        subst h
        unfold evP at hp
        cases hx : σ.ev p.2 with
        | none => rw [hx] at hp; cases hp
        | some c =>
          rw [hx] at hp
          injection hp with hp
          subst hp
          exact ⟨_, _, rfl, ev_get hok hF (hm p (by simp)) hx, parts_rx hok hF hr (fun q hq => hm q (by simp [hq]))⟩
def placesOf (P : Program) (fs : Array Field) : Array (Nat × Nat) := fs.map fun f => (f.offset, P.cellsOf f.type)
theorem run_places {fs : Array Field} (h : ∀ f ∈ fs, (P.info? f.type).isSome = true) (w : World) : (fs.mapM fun f => do pure (f.offset, ← sizeOf f.type) : Sem (Array (Nat × Nat))).run P w = .ok (placesOf P fs) w := by
  rw [Array.mapM_eq_mapM_toList]
  have key : ∀ l : List Field, (∀ f ∈ l, (P.info? f.type).isSome = true) → (l.mapM fun f => do pure (f.offset, ← sizeOf f.type) : Sem (List (Nat × Nat))).run P w = .ok (l.map fun f => (f.offset, P.cellsOf f.type)) w := by
    intro l
    induction l with
    | nil => intro _; rfl
    | cons f l ih =>
      intro h
      have hf := h f (by simp)
      obtain ⟨i, hi⟩ := Option.isSome_iff_exists.1 hf
      have h2 := ih (fun g hg => h g (by simp [hg]))
      simp only [List.mapM_cons, Sem.run_bind, run_sizeOf'' hi, Result.andThen_ok, Sem.run_pure] at h2 ⊢
      rw [h2]
      simp [Program.cellsOf, hi]
  have := key fs.toList (fun f hf => h f (by simpa using hf))
  rw [Sem.run_map, this]
  simp only [Result.andThen_ok, placesOf]
  congr 1
  apply Array.ext'
  simp
def xBuild (P : Program) (t : TypeId) (ps : List (Nat × XV)) : Option Res :=
  match (P.info? t).bind (·.zero), P.underlying t with
  | some z, some (.struct fs) => bif fs.toList.all (fun f => (P.info? f.type).isSome) then
      match fillX (fun i => (placesOf P fs)[i]?) (z.cells.toList.map .v) ps with
      | some cs => some { x := .a cs }
      | none => none
    else none
  | some z, some (.array _ e) => match P.info? e with
    | some i => match fillX (fun j => some (j * i.size, i.size)) (z.cells.toList.map .v) ps with
      | some cs => some { x := .a cs }
      | none => none
    | none => none
  | _, _ => none
theorem build_ok {o : Oper} {σ : AS} {t : TypeId} {parts : Array (Nat × Operand)} (ho : o.op = .build t parts) {ps : List (Nat × XV)} (hp : mapO (evP σ.ev) parts.toList = some ps) {r : Res} (h : xBuild P t ps = some r) (hd : dOk o N = true) : OpS P N w0 D o σ (r.eff o) := by
  have hops : ∀ p ∈ parts.toList, p.2 ∈ o.op.operands := fun p hp' => by
    simp only [ho, Op.operands]
    simpa using ⟨p.1, by simpa using hp'⟩
  have hmap : ∀ a : Act, ((parts.map fun x => match x with | (i, x) => (i, a.eval x)).toList) = parts.toList.map fun p => (p.1, a.eval p.2) := fun a => by rw [Array.toList_map]
  unfold xBuild at h
  split at h
  · rename_i z fs hz hu
    obtain ⟨i, g1, g2⟩ := info_zero hz
    cases hfs : fs.toList.all (fun f => (P.info? f.type).isSome) with
    | false => rw [hfs] at h; cases h
    | true =>
      rw [hfs, cond_true] at h
      split at h
      · rename_i cs hcs
        injection h with h
        subst h
        refine opS_still hd fun σ' hok a w β hF => ?_
        obtain ⟨cells', e1, e2⟩ := fill_rx (cells := z.cells) hcs (parts_rx hok hF hp hops) (rxs_v β _)
        refine ⟨.agg cells', ?_, rx_a.2 ⟨cells'.toList, by simp, e2⟩⟩
        have hzv : (zeroValue t).run P w = .ok z w := by simp [zeroValue, typeInfo, g1, g2]
        have hplr := run_places (P := P) (fs := fs) (fun f hf => List.all_eq_true.1 hfs f (by simpa using hf)) w
        rw [← hmap a] at e1
        unfold execOp
        simp only [ho, Instr.build, Sem.run_bind, hzv, Result.andThen_ok, run_underlying hu]
        rw [hplr]
        simp only [Result.andThen_ok]
        rw [e1]
        rfl
      · cases h
  · rename_i z nn e hz hu
    obtain ⟨i, g1, g2⟩ := info_zero hz
    split at h
    · rename_i ie hie
      split at h
      · rename_i cs hcs
        injection h with h
        subst h
        refine opS_still hd fun σ' hok a w β hF => ?_
        obtain ⟨cells', e1, e2⟩ := fill_rx (cells := z.cells) hcs (parts_rx hok hF hp hops) (rxs_v β _)
        refine ⟨.agg cells', ?_, rx_a.2 ⟨cells'.toList, by simp, e2⟩⟩
        have hzv : (zeroValue t).run P w = .ok z w := by simp [zeroValue, typeInfo, g1, g2]
        rw [← hmap a] at e1
        unfold execOp
        simp only [ho, Instr.build, Sem.run_bind, hzv, Result.andThen_ok, run_underlying hu, run_sizeOf'' hie]
        rw [e1]
        rfl
      · cases h
    · cases h
  · cases h
def zerosX (z : Value) (n : Nat) : List XV := (List.range n).map fun j => .v (z.cells[j % z.cells.size]!)
theorem zeros_rx {β : Nat → Option (Nat × Nat)} (z : Value) (n : Nat) : Rxs β (zerosX z n) ((Array.range n).map (fun j => z.cells[j % z.cells.size]!)).toList := by
  unfold zerosX
  have : ∀ l : List Nat, Rxs β (l.map fun j => XV.v (z.cells[j % z.cells.size]!)) (l.map fun j => z.cells[j % z.cells.size]!) := fun l => by
    induction l with
    | nil => exact Rxs.nil
    | cons j l ih => exact Rxs.cons (rx_v.2 rfl) ih
  have h2 := this (List.range n)
  rw [Array.toList_map]
  simpa using h2
def xSlices (P : Program) (k : Nat) (t : TypeId) (n : Nat) (ps : List (Nat × XV)) : Option Res :=
  match P.underlying t with
  | some (.slice e) => match P.info? e with
    | some i => match i.zero with
      | some z => bif Nat.ble (n * i.size) 16777216 then
          match fillX (fun j => some (j * i.size, i.size)) (bif Nat.beq (n * i.size) 0 then [] else zerosX z (n * i.size)) ps with
          | some cs => some { x := .s k 0 n (some n) i.size, nw := [(k, .c cs e false)], fr := [k] }
          | none => none
        else none
      | none => none
    | none => none
  | _ => none
theorem slices_ok {o : Oper} {σ : AS} {t : TypeId} {n k : Nat} {parts : Array (Nat × Operand)} (ho : o.op = .buildSlice t n parts) {ps : List (Nat × XV)} (hp : mapO (evP σ.ev) parts.toList = some ps) {r : Res} (h : xSlices P k t n ps = some r) (hd : dOk o N = true) : OpS P N w0 D o σ (r.eff o) := by
  have hops : ∀ p ∈ parts.toList, p.2 ∈ o.op.operands := fun p hp' => by
    simp only [ho, Op.operands]
    simpa using ⟨p.1, by simpa using hp'⟩
  have hmap : ∀ a : Act, ((parts.map fun x => match x with | (i, x) => (i, a.eval x)).toList) = parts.toList.map fun p => (p.1, a.eval p.2) := fun a => by rw [Array.toList_map]
  unfold xSlices at h
  split at h
  · rename_i e hu
    split at h
    · rename_i i hi
      split at h
      · rename_i z hz
        cases hle : Nat.ble (n * i.size) 16777216 with
        | false => rw [hle] at h; cases h
        | true =>
          rw [hle, cond_true] at h
          have hle' := Nat.le_of_ble_eq_true hle
          split at h
          · rename_i cs hcs
            injection h with h
            subst h
            refine opS_new hd fun σ' hok a w β hF => ?_
            obtain ⟨za, cells', z1, z2, e1, e2⟩ : ∃ (za : Array Value) (cells' : Array Value), (n * i.size = 0 → za = #[]) ∧ (n * i.size ≠ 0 → za = z.cells) ∧ Instr.fill (fun j => some (j * i.size, i.size)) ((Array.range (n * i.size)).map (fun j => za[j % za.size]!)) (parts.toList.map fun p => (p.1, a.eval p.2)) = some cells' ∧ Rxs β cs cells'.toList := by
              by_cases h0 : n * i.size = 0
              · obtain ⟨cells', e1, e2⟩ := fill_rx (cells := (Array.range (n * i.size)).map (fun j => (#[] : Array Value)[j % (#[] : Array Value).size]!)) hcs (parts_rx hok hF hp hops) (by rw [h0]; simpa using (Rxs.nil (β := β)))
                exact ⟨#[], cells', fun _ => rfl, fun h => absurd h0 h, e1, e2⟩
              · obtain ⟨cells', e1, e2⟩ := fill_rx (cells := (Array.range (n * i.size)).map (fun j => z.cells[j % z.cells.size]!)) hcs (parts_rx hok hF hp hops) (by rw [nbeq h0]; exact zeros_rx z _)
                exact ⟨z.cells, cells', fun h => absurd h h0, fun _ => rfl, e1, e2⟩
            refine ⟨cells'.toList, [], (0, 0), w, .slice (some ⟨w.heap.size, 0, none⟩) n n, rfl, rfl, rfl, rfl, ?_, no_fz _, e2, fun _ => rfl, fun β' hβ hk => rx_s.2 ⟨_, n, hk, rfl, Nat.le_refl _, fun c' hc => (by injection hc), fun hc => (by cases hc)⟩⟩
            rw [← hmap a] at e1
            unfold execOp
            simp only [ho, Instr.buildSlice, Sem.run_bind, Result.andThen_ok, run_underlying hu, run_sizeOf'' hi]
            rw [if_neg (by show ¬ (n * i.size > 2 ^ 24); omega)]
            by_cases h0 : n * i.size = 0
            · rw [z1 h0] at e1
              rw [if_pos h0]
              simp only [Sem.run_bind, Sem.run_pure, Result.andThen_ok]
              rw [e1]
              simp [newRow, newObj, Sem.run]
            · rw [z2 h0] at e1
              rw [if_neg h0]
              have hzv : (zeroValue e).run P w = .ok z w := by simp [zeroValue, typeInfo, hi, hz]
              simp only [Sem.run_bind, Sem.run_pure, Result.andThen_ok, hzv]
              rw [e1]
              simp [newRow, newObj, Sem.run]
          · cases h
      · cases h
    · cases h
  · cases h
def xMake (P : Program) (k : Nat) (t : TypeId) (l c : XV) : Option Res :=
  match P.underlying t, l, c with
  | some (.slice e), .v (.int .i64 l), .v (.int .i64 c) => match P.info? e with
    | some i => match i.zero with
      | some z => bif decide (0 ≤ l) && decide (l ≤ c) && decide (c ≤ 16777216) && decide (i.bytes * c ≤ 140737488355328) then
          some { x := .s k 0 l.toNat (some c.toNat) i.size, nw := [(k, .c (bif Nat.beq (c.toNat * i.size) 0 then [] else zerosX z (c.toNat * i.size)) e false)], fr := [k] }
        else none
      | none => none
    | none => none
  | _, _, _ => none
theorem make_ok {o : Oper} {σ : AS} {t : TypeId} {k : Nat} {x y : Operand} (ho : o.op = .makeSlice t x y) {c d : XV} (hx : σ.ev x = some c) (hy : σ.ev y = some d) {r : Res} (h : xMake P k t c d = some r) (hd : dOk o N = true) : OpS P N w0 D o σ (r.eff o) := by
  unfold xMake at h
  split at h
  · rename_i e l c hu
    split at h
    · rename_i i hi
      split at h
      · rename_i z hz
        cases hle : (decide (0 ≤ l) && decide (l ≤ c) && decide (c ≤ 16777216) && decide ((i.bytes : Int) * c ≤ 140737488355328)) with
        | false => rw [hle] at h; cases h
        | true =>
          rw [hle, cond_true] at h
          injection h with h
          subst h
          simp only [Bool.and_eq_true, decide_eq_true_eq] at hle
          obtain ⟨⟨⟨c1, c2⟩, c3⟩, c4⟩ := hle
          refine opS_new hd fun σ' hok a w β hF => ?_
          have h1 := rx_v.1 (ev_get hok hF (x := x) (by simp [ho, Op.operands]) hx)
          have h2 := rx_v.1 (ev_get hok hF (x := y) (by simp [ho, Op.operands]) hy)
          have hcs : ∃ za : Array Value, (c.toNat * i.size = 0 → za = #[]) ∧ (c.toNat * i.size ≠ 0 → za = z.cells) ∧ Rxs β (bif Nat.beq (c.toNat * i.size) 0 then [] else zerosX z (c.toNat * i.size)) ((Array.range (c.toNat * i.size)).map (fun j => za[j % za.size]!)).toList := by
            by_cases h0 : c.toNat * i.size = 0
            · exact ⟨#[], fun _ => rfl, fun h => absurd h0 h, by rw [h0]; simpa using (Rxs.nil (β := β))⟩
            · exact ⟨z.cells, fun h => absurd h h0, fun _ => rfl, by rw [nbeq h0]; exact zeros_rx z _⟩
          obtain ⟨za, z1, z3, z2⟩ := hcs
          refine ⟨((Array.range (c.toNat * i.size)).map (fun j => za[j % za.size]!)).toList, [], (0, 0), w, .slice (some ⟨w.heap.size, 0, none⟩) l.toNat c.toNat, rfl, rfl, rfl, rfl, ?_, no_fz _, z2, fun _ => rfl, fun β' hβ hk => rx_s.2 ⟨_, c.toNat, hk, rfl, by omega, fun c' hc => (by injection hc), fun hc => (by cases hc)⟩⟩
          have w1 : IntKind.i64.wrap l = l := IntWalk.i64_in _ (by omega)
          have w2 : IntKind.i64.wrap c = c := IntWalk.i64_in _ (by omega)
          have hti : (typeInfo e).run P w = .ok i w := by simp [typeInfo, hi]
          have hroom : (askRoom (c.toNat * i.bytes)).run P w = .ok () w := by
            unfold askRoom
            split <;> rfl
          have t1 : decide (c < 0) = false := decide_eq_false (by omega)
          have t2 : decide ((i.bytes : Int) * c > 2 ^ 48) = false := decide_eq_false (by have h48 : (2 : Int) ^ 48 = 281474976710656 := (by decide); omega)
          have t3 : decide (l < 0) = false := decide_eq_false (by omega)
          have t4 : decide (l > c) = false := decide_eq_false (by omega)
          have t5 : ¬ ((((decide (c < 0) || decide ((i.bytes : Int) * c > 2 ^ 48)) || decide (l < 0)) || decide (l > c)) = true) := by rw [t1, t2, t3, t4]; decide
          unfold execOp
          simp only [ho, Instr.makeSlice, Sem.run_bind, Result.andThen_ok, run_underlying hu, h1, h2, asInt, asIntOf, Sem.run_pure, hti, w1, w2]
          have t6 : ((decide (c < 0) || decide ((i.bytes : Int) * c > 2 ^ 48)) = true ∨ l < 0 ∨ l > c) = False := by
            rw [t1, t2]; simp; omega
          simp only [gt_iff_lt] at t5 t6 ⊢
          rw [if_neg (by first | exact t5 | (rw [t6]; exact id) | (simp at t5 t6 ⊢; omega))]
          simp only [Sem.run_bind, hroom, Result.andThen_ok, run_sizeOf'' hi]
          by_cases h0 : c.toNat * i.size = 0
          · rw [if_pos h0, z1 h0]
            simp [newRow, newObj, Sem.run]
            congr 2
            apply Array.ext'
            simp
          · rw [if_neg h0, z3 h0]
            have hzv : (zeroValue e).run P w = .ok z w := by simp [zeroValue, typeInfo, hi, hz]
            simp only [Sem.run_bind, Sem.run_pure, Result.andThen_ok, hzv]
            simp [newRow, newObj, Sem.run]
            congr 2
            apply Array.ext'
            simp
      · cases h
    · cases h
  · cases h
end
end Go.Proofs.Ytobgdemhadlgnaa.Ev

namespace Go.Proofs.Ytobgdemhadlgnaa.Ev
open Go Go.RowKit
section
variable {P : Program} {N : Nat} {w0 : World} {D : Dom}
/-! ### parts of slices -/
def bnd (x : Option Value) (d top : Nat) : Option Nat :=
  match x with
  | none => some d
  | some (.int _ i) => bif decide (0 ≤ i) && decide (i ≤ (top : Int)) then some i.toNat else none
  | _ => none
theorem bnd_run {k : IntKind} {i : Int} {y : Nat} {code : BoundsCode} {d n : Nat} (h : bnd (some (.int k i)) d y = some n) {top : Nat} (hy : y ≤ top) (w : World) : (Instr.sliceBound (.int k i) top code).run P w = .ok n w := by
  unfold bnd at h
  simp only at h
  cases hc : (decide (0 ≤ i) && decide (i ≤ (y : Int))) with
  | false => rw [hc] at h; cases h
  | true =>
    rw [hc, cond_true] at h
    injection h with h
    simp only [Bool.and_eq_true, decide_eq_true_eq] at hc
    unfold Instr.sliceBound
    simp only [asIntOf, Sem.run_bind, Sem.run_pure, Result.andThen_ok]
    rw [if_pos ⟨hc.1, by omega⟩, h]
    rfl
theorem bnd_le {x : Option Value} {d y n : Nat} (h : bnd x d y = some n) (hd : d ≤ y) : n ≤ y := by
  unfold bnd at h
  split at h
  · injection h with h; omega
  · rename_i k i
    cases hc : (decide (0 ≤ i) && decide (i ≤ (y : Int))) with
    | false => rw [hc] at h; cases h
    | true =>
      rw [hc, cond_true] at h
      injection h with h
      simp only [Bool.and_eq_true, decide_eq_true_eq] at hc
      omega
  · cases h
/-- the bounds of a slice of length n, capacity c, of which only top is known -/
def bnds (n c : Nat) (lo hi mx : Option Value) : Option (Nat × Nat × Nat) :=
  match bnd mx c c with
  | some m => match bnd hi n m with
    | some h => match bnd lo 0 h with
      | some l => bif mx.isSome && hi.isNone then none else some (l, h, m)
      | none => none
    | none => none
  | none => none
theorem bnds_run {b : Bool} {n c : Nat} {lo hi mx : Option Value} {l h m : Nat} (hb : bnds n c lo hi mx = some (l, h, m)) {c' : Nat} (hc : c ≤ c') (hm : mx = none ∨ c = c') (w : World) : (Instr.sliceBounds b n c' lo hi mx).run P w = .ok (l, h, if mx.isSome then m else c') w := by
  unfold bnds at hb
  split at hb
  · rename_i m0 h1
    split at hb
    · rename_i h0 h2
      split at hb
      · rename_i l0 h3
        cases hq : (mx.isSome && hi.isNone) with
        | true => rw [hq] at hb; cases hb
        | false =>
          rw [hq, cond_false] at hb
          injection hb with hb
          injection hb with e1 hb
          injection hb with e2 e3
          subst e1 e2 e3
          have isint : ∀ {v : Value} {d y n : Nat}, bnd (some v) d y = some n → ∃ k i, v = .int k i := fun {v d y n} hv => by
            unfold bnd at hv
            cases v <;> first | exact ⟨_, _, rfl⟩ | cases hv
          unfold Instr.sliceBounds
          cases mx with
          | none =>
            have hmc : m0 = c := by have h1' : some c = some m0 := h1; injection h1' with h1'; exact h1'.symm
            subst hmc
            cases hi with
            | none =>
              have hmn : h0 = n := by have h2' : some n = some h0 := h2; injection h2' with h2'; exact h2'.symm
              subst hmn
              cases lo with
              | none =>
                have : l0 = 0 := by have h3' : some 0 = some l0 := h3; injection h3' with h3'; exact h3'.symm
                subst this
                rfl
              | some v =>
                obtain ⟨k, i, rfl⟩ := isint h3
                simp [bnd_run (P := P) h3 (Nat.le_refl _)]
            | some v =>
              obtain ⟨k, i, rfl⟩ := isint h2
              cases lo with
              | none =>
                have : l0 = 0 := by have h3' : some 0 = some l0 := h3; injection h3' with h3'; exact h3'.symm
                subst this
                simp [bnd_run (P := P) h2 hc]
              | some v =>
                obtain ⟨k, i, rfl⟩ := isint h3
                simp [bnd_run (P := P) h2 hc, bnd_run (P := P) h3 (Nat.le_refl _)]
          | some v =>
            have hcc : c = c' := hm.resolve_left (fun e => by cases e)
            subst hcc
            obtain ⟨k, i, rfl⟩ := isint h1
            cases hi with
            | none => cases hq
            | some v2 =>
              obtain ⟨k2, i2, rfl⟩ := isint h2
              cases lo with
              | none =>
                have : l0 = 0 := by have h3' : some 0 = some l0 := h3; injection h3' with h3'; exact h3'.symm
                subst this
                simp [bnd_run (P := P) h1 (Nat.le_refl _), bnd_run (P := P) h2 (Nat.le_refl _)]
              | some v =>
                obtain ⟨k, i, rfl⟩ := isint h3
                simp [bnd_run (P := P) h1 (Nat.le_refl _), bnd_run (P := P) h2 (Nat.le_refl _), bnd_run (P := P) h3 (Nat.le_refl _)]
      · cases hb
    · cases hb
  · cases hb
def fevO (ev : Operand → Option XV) : Option Operand → Option (Option Value)
  | none => some none
  | some x => match fev ev x with
    | some v => some (some v)
    | none => none
theorem fevO_get {o : Oper} {σ σ' : AS} {e : Eff} {a : Act} {w : World} {β : Nat → Option (Nat × Nat)} (hok : e.ok o σ σ') (hF : Fits w0 D σ' a w β) {x : Option Operand} {v : Option Value} (h : fevO σ.ev x = some v) (hx : ∀ y, x = some y → y ∈ o.op.operands) : x.map a.eval = v := by
  cases x with
  | none => injection h
  | some y =>
    have h : (match fev σ.ev y with | some v => some (some v) | none => none) = some v := h
    cases hf : fev σ.ev y with
    | none => rw [hf] at h; cases h
    | some u =>
      rw [hf] at h
      injection h with h
      rw [← h]
      unfold fev at hf
      cases hy : σ.ev y with
      | none => rw [hy] at hf; cases hf
      | some c =>
        rw [hy] at hf
        rw [Option.map_some, fl_rx 20 c u _ hf (ev_get hok hF (hx y rfl) hy)]
def xSlice (P : Program) (t : TypeId) (c : XV) (lo hi mx : Option Value) : Option Res :=
  match P.underlying t, c with
  | some (.slice e), .s m o n (some c) z => match P.info? e with
    | some i => bif Nat.beq i.size z then (match bnds n c lo hi mx with
      | some (l, h, m') => some { x := .s m (bif Nat.beq m' l then o else o + l * z) (h - l) (some (m' - l)) z }
      | none => none) else none
    | none => none
  | some (.slice e), .s m o n none z => match P.info? e, mx with
    | some i, none => bif Nat.beq i.size z then (match bnds n n lo hi none with
      | some (l, h, _) => bif Nat.blt l n || Nat.beq l 0 then some { x := .s m (o + l * z) (h - l) none z } else some { x := .e }
      | none => none) else none
    | _, _ => none
  | some (.array n e), .p m o => match P.info? e with
    | some i => match bnds n n lo hi mx with
      | some (l, h, m') => some { x := .s m (bif Nat.beq m' l then o else o + l * i.size) (h - l) (some (m' - l)) i.size }
      | none => none
    | none => none
  | _, _ => none
theorem bnds_le {n c : Nat} {lo hi mx : Option Value} {l h m : Nat} (hb : bnds n c lo hi mx = some (l, h, m)) (hn : n ≤ c) : l ≤ h ∧ h ≤ m ∧ m ≤ c ∧ (mx = none → m = c) ∧ (hi = none → mx = none) := by
  unfold bnds at hb
  split at hb
  · rename_i m0 h1
    split at hb
    · rename_i h0 h2
      split at hb
      · rename_i l0 h3
        cases hq : (mx.isSome && hi.isNone) with
        | true => rw [hq] at hb; cases hb
        | false =>
          rw [hq, cond_false] at hb
          injection hb with hb
          injection hb with e1 hb
          injection hb with e2 e3
          subst e1 e2 e3
          have g1 := bnd_le h1 (Nat.le_refl c)
          refine ⟨bnd_le h3 (Nat.zero_le _), ?_, g1, fun e => ?_, fun e => ?_⟩
          · cases hi with
            | none =>
              cases mx with
              | none =>
                have h1' : some c = some m0 := h1
                have h2' : some n = some h0 := h2
                injection h1' with h1'; injection h2' with h2'; omega
              | some v => cases hq
            | some v =>
              unfold bnd at h2
              cases v with
              | int k i =>
                simp only at h2
                cases hc : (decide (0 ≤ i) && decide (i ≤ (m0 : Int))) with
                | false => rw [hc] at h2; cases h2
                | true =>
                  rw [hc, cond_true] at h2
                  injection h2 with h2
                  simp only [Bool.and_eq_true, decide_eq_true_eq] at hc
                  omega
              | _ => cases h2
          · subst e
            have h1' : some c = some m0 := h1
            injection h1' with h1'; exact h1'.symm
          · subst e
            cases mx with
            | none => rfl
            | some v => cases hq
      · cases hb
    · cases hb
  · cases hb
theorem slice_ok {o : Oper} {σ : AS} {t : TypeId} {x : Operand} {lo hi mx : Option Operand} (ho : o.op = .slice t x lo hi mx) {c : XV} (hx : σ.ev x = some c) {l h m : Option Value} (hl : fevO σ.ev lo = some l) (hh : fevO σ.ev hi = some h) (hm : fevO σ.ev mx = some m) {r : Res} (hr : xSlice P t c l h m = some r) (hd : dOk o N = true) : OpS P N w0 D o σ (r.eff o) := by
  have m1 : ∀ y, lo = some y → y ∈ o.op.operands := fun y e => by simp [ho, Op.operands, e]
  have m2 : ∀ y, hi = some y → y ∈ o.op.operands := fun y e => by simp [ho, Op.operands, e]
  have m3 : ∀ y, mx = some y → y ∈ o.op.operands := fun y e => by simp [ho, Op.operands, e]
  unfold xSlice at hr
  split at hr
  · rename_i e m0 oo n cc z hu
    split at hr
    · rename_i i hi2
      cases hz : Nat.beq i.size z with
      | false => rw [hz] at hr; cases hr
      | true =>
        rw [hz, cond_true] at hr
        have hz' := Nat.eq_of_beq_eq_true hz
        subst hz'
        split at hr
        · rename_i l0 h0 m' hb
          injection hr with hr
          subst hr
          refine opS_still hd fun σ' hok a w β hF => ?_
          obtain ⟨b, k, g1, g2, g3, g4, g5⟩ := rx_s.1 (ev_get hok hF (x := x) (by simp [ho, Op.operands]) hx)
          have hk := g4 _ rfl
          subst hk
          have e1 := fevO_get hok hF hl m1
          have e2 := fevO_get hok hF hh m2
          have e3 := fevO_get hok hF hm m3
          have hrun := bnds_run (P := P) (b := true) hb (Nat.le_refl k) (.inr rfl) w
          obtain ⟨q1, q2, q3, q4, q5⟩ := bnds_le hb g3
          have hmm : (if m.isSome then m' else k) = m' := by
            split
            · rfl
            · rename_i hn; cases m with
              | none => exact (q4 rfl).symm
              | some v => simp at hn
          rw [hmm] at hrun
          refine ⟨.slice (some (if m' = l0 then ⟨b.1, oo, none⟩ else (⟨b.1, oo, none⟩ : Addr).add (l0 * i.size))) (h0 - l0) (m' - l0), ?_, ?_⟩
          · simp only [execOp, ho, Instr.sliceAt, Sem.run_bind, run_underlying hu, Result.andThen_ok, Instr.slice, g2, e1, e2, e3, hrun, run_sizeOf'' hi2, Sem.run_pure]
            split <;> rfl
          · by_cases hml : m' = l0
            · rw [if_pos hml]
              have : Nat.beq m' l0 = true := by rw [hml]; exact Nat.beq_refl _
              rw [this]
              exact rx_s.2 ⟨b, m' - l0, g1, rfl, by omega, fun c' hc => (by injection hc), fun hc => (by cases hc)⟩
            · rw [if_neg hml, add_plain, nbeq hml]
              exact rx_s.2 ⟨b, m' - l0, g1, rfl, by omega, fun c' hc => (by injection hc), fun hc => (by cases hc)⟩
        · cases hr
    · cases hr
  · rename_i e m0 oo n z hu
    split at hr
    · rename_i i hi2
      cases hz : Nat.beq i.size z with
      | false => rw [hz] at hr; cases hr
      | true =>
        rw [hz, cond_true] at hr
        have hz' := Nat.eq_of_beq_eq_true hz
        subst hz'
        split at hr
        · rename_i l0 h0 m' hb
          have hgo : ∀ (rx : XV), (∀ (b : Nat × Nat) (k : Nat) (β : Nat → Option (Nat × Nat)), β m0 = some b → n ≤ k → oo + k * i.size = b.2 → l0 ≤ h0 → h0 ≤ n → Rx β rx (.slice (some (if k = l0 then ⟨b.1, oo, none⟩ else (⟨b.1, oo, none⟩ : Addr).add (l0 * i.size))) (h0 - l0) (k - l0))) → OpS P N w0 D o σ (Res.eff { x := rx } o) := fun rx hrx => by
            refine opS_still hd fun σ' hok a w β hF => ?_
            obtain ⟨b, k, g1, g2, g3, g4, g5⟩ := rx_s.1 (ev_get hok hF (x := x) (by simp [ho, Op.operands]) hx)
            have e1 := fevO_get hok hF hl m1
            have e2 := fevO_get hok hF hh m2
            have e3 := fevO_get hok hF hm m3
            have hrun := bnds_run (P := P) (b := true) hb g3 (.inl rfl) w
            obtain ⟨q1, q2, q3, q4, q5⟩ := bnds_le hb (Nat.le_refl n)
            refine ⟨.slice (some (if k = l0 then ⟨b.1, oo, none⟩ else (⟨b.1, oo, none⟩ : Addr).add (l0 * i.size))) (h0 - l0) (k - l0), ?_, hrx b k β g1 g3 (g5 rfl) q1 (by have := q4 rfl; omega)⟩
            simp only [Option.isSome_none, Bool.false_eq_true, if_false] at hrun
            simp only [execOp, ho, Instr.sliceAt, Sem.run_bind, run_underlying hu, Result.andThen_ok, Instr.slice, g2, e1, e2, e3, hrun, run_sizeOf'' hi2, Sem.run_pure]
            split <;> rfl
          cases hq : (Nat.blt l0 n || Nat.beq l0 0) with
          | false =>
            rw [hq, cond_false] at hr
            injection hr with hr
            subst hr
            refine hgo .e fun b k β g1 g2 g3 g4 g5 => ?_
            simp only [Bool.or_eq_false_iff] at hq
            have : ¬ l0 < n := fun h => by
              have h1 : Nat.blt l0 n = true := Nat.ble_eq_true_of_le h
              rw [h1] at hq; cases hq.1
            have hh0 : h0 - l0 = 0 := by omega
            rw [hh0]
            exact rx_e.2 ⟨_, _, rfl⟩
          | true =>
            rw [hq, cond_true] at hr
            injection hr with hr
            subst hr
            refine hgo _ fun b k β g1 g2 g3 g4 g5 => ?_
            have hcase : k ≠ l0 ∨ l0 = 0 := by
              simp only [Bool.or_eq_true] at hq
              rcases hq with h | h
              · have : l0 < n := Nat.le_of_ble_eq_true h
                exact .inl (by omega)
              · exact .inr (Nat.eq_of_beq_eq_true h)
            have hadd : (if k = l0 then (⟨b.1, oo, none⟩ : Addr) else (⟨b.1, oo, none⟩ : Addr).add (l0 * i.size)) = ⟨b.1, oo + l0 * i.size, none⟩ := by
              rcases hcase with h | h
              · rw [if_neg h, add_plain]
              · subst h
                split
                · simp
                · rw [add_plain]
            rw [hadd]
            refine rx_s.2 ⟨b, k - l0, g1, rfl, by omega, fun c' hc => (by cases hc), fun _ => ?_⟩
            rw [← g3, Nat.sub_mul]
            have : l0 * i.size ≤ k * i.size := Nat.mul_le_mul_right _ (by omega)
            omega
        · cases hr
    · cases hr
  · rename_i n e m0 oo hu
    split at hr
    · rename_i i hi2
      split at hr
      · rename_i l0 h0 m' hb
        injection hr with hr
        subst hr
        refine opS_still hd fun σ' hok a w β hF => ?_
        obtain ⟨b, g1, g2⟩ := rx_p.1 (ev_get hok hF (x := x) (by simp [ho, Op.operands]) hx)
        have e1 := fevO_get hok hF hl m1
        have e2 := fevO_get hok hF hh m2
        have e3 := fevO_get hok hF hm m3
        have hrun := bnds_run (P := P) (b := false) hb (Nat.le_refl n) (.inr rfl) w
        obtain ⟨q1, q2, q3, q4, q5⟩ := bnds_le hb (Nat.le_refl n)
        have hmm : (if m.isSome then m' else n) = m' := by
          split
          · rfl
          · rename_i hn; cases m with
            | none => exact (q4 rfl).symm
            | some v => simp at hn
        rw [hmm] at hrun
        refine ⟨.slice (some (if m' = l0 then ⟨b.1, oo, none⟩ else (⟨b.1, oo, none⟩ : Addr).add (l0 * i.size))) (h0 - l0) (m' - l0), ?_, ?_⟩
        · simp only [execOp, ho, Instr.sliceAt, Sem.run_bind, run_underlying hu, Result.andThen_ok, Instr.sureAddr, g2, e1, e2, e3, hrun, run_sizeOf'' hi2, Sem.run_pure]
        · by_cases hml : m' = l0
          · rw [if_pos hml]
            have : Nat.beq m' l0 = true := by rw [hml]; exact Nat.beq_refl _
            rw [this]
            exact rx_s.2 ⟨b, m' - l0, g1, rfl, by omega, fun c' hc => (by injection hc), fun hc => (by cases hc)⟩
          · rw [if_neg hml, add_plain, nbeq hml]
            exact rx_s.2 ⟨b, m' - l0, g1, rfl, by omega, fun c' hc => (by injection hc), fun hc => (by cases hc)⟩
      · cases hr
    · cases hr
  · cases hr
end
end Go.Proofs.Ytobgdemhadlgnaa.Ev

namespace Go.Proofs.Ytobgdemhadlgnaa.Ev
open Go Go.RowKit
section
variable {P : Program} {N : Nat} {w0 : World} {D : Dom}
def intD : TypeDesc → Bool
  | .int _ => true
  | _ => false
/-! ### what is appended or copied -/
def srcX (n : Nat → XO) (size : Nat) (c : XV) : Option (Nat × List XV × List Nat) :=
  match c with
  | .v (.slice none 0 _) => some (0, [], [])
  | .e => some (0, [], [])
  | .s m o k _ _ => match n m with
    | .c cs _ _ => bif Nat.ble (o + k * size) cs.length then some (k, (cs.drop o).take (k * size), [m]) else none
    | _ => none
  | .v (.string s) => bif Nat.beq size 1 then some (s.size, s.data.toList.map fun b => .v (.int .u8 b.toNat), []) else none
  | _ => none
theorem cell_world {w w1 : World} (h : w1.heap = w.heap) (a : Addr) : w1.cell? a = w.cell? a := by unfold World.cell?; rw [h]
theorem src_ok {n : Nat → XO} {size : Nat} {c : XV} {k : Nat} {cs : List XV} {rn : List Nat} (h : srcX n size c = some (k, cs, rn)) {β : Nat → Option (Nat × Nat)} {w : World} (hR : ∀ m ∈ rn, Ro β w m (n m)) {u : Value} (hu : Rx β c u) (j : Nat) (hj : j ≤ k) :
    ∃ news : List Value, Rxs β (cs.take (j * size)) news ∧ news.length = j * size ∧ ∀ w1 : World, w1.heap = w.heap → (Builtin.lenOf u).run P w1 = .ok k w1 ∧ (Builtin.firstCells size j u).run P w1 = .ok news.toArray w1 := by
  unfold srcX at h
  split at h
  · injection h with h
    injection h with e1 h
    injection h with e2 e3
    subst e1 e2 e3
    have hj0 : j = 0 := by omega
    subst hj0
    rw [rx_v.1 hu]
    exact ⟨[], by simpa using Rxs.nil, by simp, fun w1 _ => ⟨rfl, rfl⟩⟩
  · injection h with h
    injection h with e1 h
    injection h with e2 e3
    subst e1 e2 e3
    have hj0 : j = 0 := by omega
    subst hj0
    obtain ⟨A, q, rfl⟩ := rx_e.1 hu
    refine ⟨[], by simpa using Rxs.nil, by simp, fun w1 _ => ⟨rfl, ?_⟩⟩
    cases A with
    | none => rfl
    | some a => simp [Builtin.firstCells, loadCells, loadCellsFrom]
  · rename_i m o k0 cc z
    split at h
    · rename_i xs ty opn hm
      cases hle : Nat.ble (o + k0 * size) xs.length with
      | false => rw [hle] at h; cases h
      | true =>
        rw [hle, cond_true] at h
        injection h with h
        injection h with e1 h
        injection h with e2 e3
        subst e1 e2 e3
        have hle' := Nat.le_of_ble_eq_true hle
        obtain ⟨b, q, g1, rfl, g3, _⟩ := rx_s.1 hu
        have hr := hR m (by simp)
        rw [hm] at hr
        obtain ⟨us, vs, fz, q1, q2, q3, q4, q5⟩ := ro_c hr g1
        have hlen := q4.len
        have hmul : j * size ≤ k0 * size := Nat.mul_le_mul_right _ hj
        refine ⟨(us.drop o).take (j * size), ?_, by simp; omega, fun w1 hw => ⟨rfl, ?_⟩⟩
        · rw [List.take_take, Nat.min_eq_left hmul]
          exact (q4.drop o).take _
        · have := run_loadCells_list (P := P) w1 ⟨b.1, o, none⟩ ((us.drop o).take (j * size)) (fun i v hv => by rw [add_plain, cell_world hw]; exact cell_c q1 (take_drop_get hv))
          rw [show ((us.drop o).take (j * size)).length = j * size by simp; omega] at this
          exact this
    · cases h
  · rename_i s
    cases hs : Nat.beq size 1 with
    | false => rw [hs] at h; cases h
    | true =>
      rw [hs, cond_true] at h
      have hs' := Nat.eq_of_beq_eq_true hs
      subst hs'
      injection h with h
      injection h with e1 h
      injection h with e2 e3
      subst e1 e2 e3
      rw [rx_v.1 hu]
      refine ⟨(s.data.toList.map fun b => Value.int .u8 b.toNat).take (j * 1), ?_, ?_, fun w1 _ => ⟨rfl, ?_⟩⟩
      · have : (s.data.toList.map fun b => XV.v (.int .u8 b.toNat)) = (s.data.toList.map fun b => Value.int .u8 b.toNat).map .v := by simp
        rw [this]
        exact (rxs_v β _).take _
      · simp; omega
      · simp only [Builtin.firstCells, Sem.run_pure, Nat.mul_one]
        congr 1
        apply Array.ext'
        simp [ByteArray.extract, ByteArray.copySlice, List.map_take]
  · cases h
theorem run_grow {t t2 ty e : TypeId} {d2 : TypeDesc} {i : TypeInfo} {z : Value} (ht : P.underlying t = some (.slice e)) (h2 : P.underlying t2 = some d2) (hn2 : intD d2 = false) (hi : P.info? e = some i) (hz : i.zero = some z)
    {w : World} {x : Value} {base : Option Addr} {sLen sCap n : Nat} {olds news : List Value} (hx : ∀ w1 : World, w1.heap = w.heap → (Builtin.lenOf x).run P w1 = .ok n w1 ∧ (Builtin.firstCells i.size n x).run P w1 = .ok news.toArray w1)
    (hold : ∀ w1 : World, w1.heap = w.heap → (Builtin.firstCells i.size sLen (.slice base sLen sCap)).run P w1 = .ok olds.toArray w1) (hg : sCap < sLen + n) (h63 : sLen + n ≤ maxLen) (hb : (sLen + n) * i.bytes ≤ 140737488355328) :
    (Builtin.append_ #[t, t2] ty #[.slice base sLen sCap, x]).run P w = .ok (.slice (some ⟨w.heap.size, 0, none⟩) (sLen + n) (grownCap w (sLen + n) sCap e))
      (w.drew.alloc (.cells (olds.toArray ++ news.toArray ++ Builtin.zeroCells z.cells (grownCap w (sLen + n) sCap e - (sLen + n))) e)) := by
  have hn : ¬ (sLen + n ≤ sCap) := by omega
  have h63' : ¬ (9223372036854775807 < ((sLen : Int) + (n : Int))) := by unfold maxLen at h63; omega
  have hfit := growslice_fits (show sCap < sLen + n by omega) hb
  have h48' : ¬ (281474976710656 < Builtin.nextslicecap (sLen + n) sCap * i.bytes) := by omega
  have l1 := (hx w rfl).1
  have l2 := (hx w.drew rfl).2
  have l3 := hold w.drew rfl
  simp [Builtin.append_, run_underlying ht, run_underlying h2, sizeOf, typeInfo, zeroValue, hi, hz, l1, hn, h63', h48', Question.forced, l2, l3, newRow, grownCap]
  cases d2 <;> first | (cases hn2; done) | (simp [run_underlying h2, l1, hn, h63', h48', Question.forced, l2, l3, newRow, grownCap, hi, hz]; congr 2; apply Array.ext'; simp)
theorem run_room {t t2 ty e : TypeId} {d2 : TypeDesc} {i : TypeInfo} (ht : P.underlying t = some (.slice e)) (h2 : P.underlying t2 = some d2) (hn2 : intD d2 = false) (hi : P.info? e = some i)
    {w w' : World} {x : Value} {a : Addr} {sLen sCap n : Nat} {news : List Value} (hx : ∀ w1 : World, w1.heap = w.heap → (Builtin.lenOf x).run P w1 = .ok n w1 ∧ (Builtin.firstCells i.size n x).run P w1 = .ok news.toArray w1)
    (hg : sLen + n ≤ sCap) (hst : (storeCells (a.add (sLen * i.size)) news 0).run P w = .ok () w') :
    (Builtin.append_ #[t, t2] ty #[.slice (some a) sLen sCap, x]).run P w = .ok (.slice (some a) (sLen + n) sCap) w' := by
  have l1 := (hx w rfl).1
  have l2 := (hx w rfl).2
  simp [Builtin.append_, run_underlying ht, run_underlying h2, sizeOf, typeInfo, hi, l1, hg, l2, hst]
  cases d2 <;> first | (cases hn2; done) | (simp [run_underlying h2, l1, hg, l2, hst])
/-! ### append -/
def roomB (a : Nat) (bytes : Nat) : Bool := Nat.ble a 9223372036854775807 && Nat.ble (a * bytes) 140737488355328
def xAppend (P : Program) (n : Nat → XO) (k : Nat) (t t2 : TypeId) (base src : XV) : Option Res :=
  match P.underlying t, P.underlying t2 with
  | some (.slice e), some d2 => bif intD d2 then none else
    match P.info? e with
    | some i => match i.zero with
      | some z => match srcX n i.size src with
        | some (q, news, rn) => bif Nat.beq z.cells.size i.size && news.all XV.one then
            match base with
            | .v (.slice none 0 0) => bif Nat.beq q 0 then some { x := base, rn := rn }
              else bif roomB q i.bytes then some { x := .s k 0 q none i.size, nw := [(k, .c news e true)], rn := rn, fr := [k] } else none
            | .s m o l (some c) zz => match n m with
              | .c cs ty opn => bif Nat.beq zz i.size then
                  (bif Nat.ble (l + q) c then
                    (bif Nat.ble (o + (l + q) * i.size) cs.length then some { x := .s m o (l + q) (some c) zz, nw := [(m, .c (spliceX cs (o + l * i.size) news) ty opn)], rn := m :: rn } else none)
                  else bif Nat.ble (o + l * i.size) cs.length && roomB (l + q) i.bytes then some { x := .s k 0 (l + q) none i.size, nw := [(k, .c ((cs.drop o).take (l * i.size) ++ news) e true)], rn := m :: rn, fr := [k] } else none)
                else none
              | _ => none
            | .s m 0 l none zz => match n m with
              | .c cs ty true => bif Nat.beq zz i.size && Nat.beq ty e && Nat.ble (l * i.size) cs.length then
                  (bif Nat.beq q 0 then some { x := base, rn := m :: rn }
                  else bif roomB (l + q) i.bytes then some { x := .s k 0 (l + q) none i.size, nw := [(k, .c (cs.take (l * i.size) ++ news) e true), (m, .dead)], rn := m :: rn, fr := [k] } else none)
                else none
              | _ => none
            | _ => none
          else none
        | none => none
      | none => none
    | none => none
  | _, _ => none
theorem room_of {a b : Nat} (h : roomB a b = true) : a ≤ maxLen ∧ a * b ≤ 140737488355328 := by
  unfold roomB at h
  simp only [Bool.and_eq_true] at h
  exact ⟨Nat.le_of_ble_eq_true h.1, Nat.le_of_ble_eq_true h.2⟩
theorem app_ex {o : Oper} {t t2 : TypeId} {s x : Operand} (ho : o.op = .call { callee := .builtin .append, args := #[s, x], argTypes := #[t, t2] }) {a : Act} {w w' : World} {v : Value} (h : (Builtin.append_ #[t, t2] o.type #[a.eval s, a.eval x]).run P w = .ok v w') : (execOp a.eval o).run P w = .ok (.value v) w' := by
  unfold execOp
  simp only [ho, resolve, invoke, builtin, Sem.run_bind, Sem.run_pure, Result.andThen_ok, List.map_toArray, List.map_cons, List.map_nil, h]
theorem grown_size {w : World} {need old : Nat} {e : TypeId} {z : Value} {s : Nat} (hz : z.cells.size = s) : (Builtin.zeroCells z.cells (grownCap w need old e - need)).toList.length = (grownCap w need old e - need) * s := by simp [size_zeroCells, hz]
theorem append_ok {o : Oper} {σ : AS} {t t2 : TypeId} {s x : Operand} {k : Nat} (ho : o.op = .call { callee := .builtin .append, args := #[s, x], argTypes := #[t, t2] }) {c d : XV} (hs : σ.ev s = some c) (hx : σ.ev x = some d) {r : Res} (h : xAppend P σ.n k t t2 c d = some r) (hd : dOk o N = true) : OpS P N w0 D o σ (r.eff o) := by
  have ms : s ∈ o.op.operands := by simp [ho, Op.operands, Call.operands]
  have mx : x ∈ o.op.operands := by simp [ho, Op.operands, Call.operands]
  unfold xAppend at h
  split at h
  · rename_i e d2 hu hu2
    cases hd2 : intD d2 with
    | true => rw [hd2] at h; cases h
    | false =>
      rw [hd2, cond_false] at h
      split at h
      · rename_i i hi
        split at h
        · rename_i z hz
          split at h
          · rename_i q news rn hsrc
            cases hck : (Nat.beq z.cells.size i.size && news.all XV.one) with
            | false => rw [hck] at h; cases h
            | true =>
              rw [hck, cond_true] at h
              simp only [Bool.and_eq_true] at hck
              have hzs := Nat.eq_of_beq_eq_true hck.1
              have src := fun {σ' : AS} {a : Act} {w : World} {β : Nat → Option (Nat × Nat)} (hF : Fits w0 D σ' a w β) (hn : ∀ m ∈ rn, σ'.n m = σ.n m) (hev : Rx β d (a.eval x)) =>
                src_ok (P := P) hsrc (w := w) (fun m hm => by have := hF.n m; rwa [hn m hm] at this) hev q (Nat.le_refl _)
              have full : ∀ {β : Nat → Option (Nat × Nat)} {us : List Value}, Rxs β (news.take (q * i.size)) us → us.length = q * i.size → news.length = q * i.size → Rxs β news us := fun {β us} h1 h2 h3 => by
                rw [List.take_of_length_le (by omega)] at h1; exact h1
              have nlen : ∀ {β : Nat → Option (Nat × Nat)} {us : List Value}, Rxs β (news.take (q * i.size)) us → us.length = q * i.size → news.length = q * i.size := fun {β us} h1 h2 => by
                have h3 := h1.len
                have h4 : news.length ≤ q * i.size := by
                  unfold srcX at hsrc
                  split at hsrc
                  · injection hsrc with hsrc; injection hsrc with e1 hsrc; injection hsrc with e2 e3; subst e2; simp
                  · injection hsrc with hsrc; injection hsrc with e1 hsrc; injection hsrc with e2 e3; subst e2; simp
                  · split at hsrc
                    · rename_i k0 _ _ _ xs _ _ _
                      cases hle : Nat.ble (_ + k0 * i.size) xs.length with
                      | false => rw [hle] at hsrc; cases hsrc
                      | true =>
                        rw [hle, cond_true] at hsrc
                        injection hsrc with hsrc; injection hsrc with e1 hsrc; injection hsrc with e2 e3; subst e1 e2; simp; omega
                    · cases hsrc
                  · cases hs1 : Nat.beq i.size 1 with
                    | false => rw [hs1] at hsrc; cases hsrc
                    | true =>
                      rw [hs1, cond_true] at hsrc
                      have := Nat.eq_of_beq_eq_true hs1
                      injection hsrc with hsrc; injection hsrc with e1 hsrc; injection hsrc with e2 e3; subst e1 e2; simp [this]
                  · cases hsrc
                simp at h3; omega
              split at h
              · -- nothing yet
                rename_i hb
                cases hq : Nat.beq q 0 with
                | true =>
                  rw [hq, cond_true] at h
                  injection h with h
                  subst h
                  have hq0 := Nat.eq_of_beq_eq_true hq
                  subst hq0
                  refine opS_still hd fun σ' hok a w β hF => ?_
                  have e1 := rx_v.1 (ev_get hok hF ms hs)
                  obtain ⟨us, g1, g2, g3⟩ := src hF (fun m hm => hok.n m hm) (ev_get hok hF mx hx)
                  refine ⟨.slice none 0 0, app_ex ho ?_, rx_v.2 rfl⟩
                  have l1 := (g3 w rfl).1
                  have l2 := (g3 w rfl).2
                  rw [e1]
                  simp [Builtin.append_, run_underlying hu, run_underlying hu2, sizeOf, typeInfo, hi, l1, l2]
                  cases d2 <;> first | (cases hd2; done) | (simp [run_underlying hu2, l1, l2])
                | false =>
                  rw [hq, cond_false] at h
                  cases hrm : roomB q i.bytes with
                  | false => rw [hrm] at h; cases h
                  | true =>
                    rw [hrm, cond_true] at h
                    injection h with h
                    subst h
                    obtain ⟨r1, r2⟩ := room_of hrm
                    have hq0 : q ≠ 0 := fun e => by rw [e] at hq; cases hq
                    refine opS_new hd fun σ' hok a w β hF => ?_
                    have e1 := rx_v.1 (ev_get hok hF ms hs)
                    obtain ⟨us, g1, g2, g3⟩ := src hF (fun m hm => hok.n m hm) (ev_get hok hF mx hx)
                    have hrun := run_grow (P := P) (ty := o.type) (base := none) (sLen := 0) (sCap := 0) (olds := []) hu hu2 hd2 hi hz g3 (fun w1 _ => by simp [Builtin.firstCells]) (by omega) (by omega) (by rw [Nat.zero_add]; exact r2)
                    rw [Nat.zero_add] at hrun
                    refine ⟨us, (Builtin.zeroCells z.cells (grownCap w q 0 e - q)).toList, (0, 0), w.drew, _, rfl, rfl, rfl, rfl, app_ex ho (by rw [e1, hrun]; congr 2; congr 1; apply Array.ext'; simp), no_fz _, full g1 g2 (nlen g1 g2), fun h => (by cases h), fun β' hβ hk => rx_s.2 ⟨_, _, hk, rfl, grownCap_ge w q 0 e, fun c' hc => (by cases hc), fun _ => ?_⟩⟩
                    rw [grown_size hzs, g2, ← Nat.add_mul, Nat.zero_add, Nat.add_sub_cancel' (grownCap_ge w q 0 e)]
              · -- a slice whose capacity is known
                rename_i m o2 l cc zz
                split at h
                · rename_i cs ty opn hm
                  cases hzz : Nat.beq zz i.size with
                  | false => rw [hzz] at h; cases h
                  | true =>
                    rw [hzz, cond_true] at h
                    have hzz' := Nat.eq_of_beq_eq_true hzz
                    subst hzz'
                    cases hle : Nat.ble (l + q) cc with
                    | true =>
                      rw [hle, cond_true] at h
                      have hle' := Nat.le_of_ble_eq_true hle
                      cases hle2 : Nat.ble (o2 + (l + q) * i.size) cs.length with
                      | false => rw [hle2] at h; cases h
                      | true =>
                        rw [hle2, cond_true] at h
                        have hle2' := Nat.le_of_ble_eq_true hle2
                        injection h with h
                        subst h
                        intro σ' hok a w hst K Q hK
                        obtain ⟨β, hF⟩ := hst.f
                        obtain ⟨b, kk, e1, e2, e3, e4, e5⟩ := rx_s.1 (ev_get hok hF ms hs)
                        have hkk := e4 _ rfl
                        subst hkk
                        obtain ⟨us, g1, g2, g3⟩ := src hF (fun m' hm' => hok.n m' (by simp [Res.eff, hm'])) (ev_get hok hF mx hx)
                        have hm' : σ'.n m = .c cs ty opn := by rw [hok.n m (by simp [Res.eff])]; exact hm
                        have hR := hF.n m
                        rw [hm'] at hR
                        have hfull := full g1 g2 (nlen g1 g2)
                        have hnl := nlen g1 g2
                        obtain ⟨row, s1, s2⟩ := set_cells (P := P) hR e1 hfull (ones_rx hfull hck.2) (o := o2 + l * i.size) (by rw [hnl, Nat.add_assoc, ← Nat.add_mul]; exact hle2')
                        have hrun := run_room (P := P) (ty := o.type) (a := ⟨b.1, o2, none⟩) (sLen := l) (sCap := kk) hu hu2 hd2 hi g3 hle' (by rw [add_plain]; exact s1)
                        first | refine owp_v (app_ex ho (by rw [e2]; exact hrun)) ?_ | refine owp_s (app_ex ho (by rw [e2]; exact hrun)) ?_
                        exact hK _ _ (hst.set (w' := w.setRow b.1 row) (ob := .c (spliceX cs (o2 + l * i.size) news) ty opn) hF (m := m) (by rw [hm']; rfl) e1 rfl rfl rfl rfl (by simp) (fun g hg hne => setRow_other w b.1 g _ hne) s2 hd (rx_s.2 ⟨b, kk, e1, rfl, hle', fun c' hc => (by injection hc), fun hc => (by cases hc)⟩) _)
                    | false =>
                      rw [hle, cond_false] at h
                      have hle' : ¬ (l + q ≤ cc) := fun hh => by rw [Nat.ble_eq_true_of_le hh] at hle; cases hle
                      cases hle2 : (Nat.ble (o2 + l * i.size) cs.length && roomB (l + q) i.bytes) with
                      | false => rw [hle2] at h; cases h
                      | true =>
                        rw [hle2, cond_true] at h
                        simp only [Bool.and_eq_true] at hle2
                        have hle2' := Nat.le_of_ble_eq_true hle2.1
                        obtain ⟨r1, r2⟩ := room_of hle2.2
                        injection h with h
                        subst h
                        refine opS_new hd fun σ' hok a w β hF => ?_
                        obtain ⟨b, kk, e1, e2, e3, e4, e5⟩ := rx_s.1 (ev_get hok hF ms hs)
                        have hkk := e4 _ rfl
                        subst hkk
                        obtain ⟨us, g1, g2, g3⟩ := src hF (fun m' hm' => hok.n m' (by simp [Res.eff, hm'])) (ev_get hok hF mx hx)
                        have hm' : σ'.n m = .c cs ty opn := by rw [hok.n m (by simp [Res.eff])]; exact hm
                        have hR := hF.n m
                        rw [hm'] at hR
                        obtain ⟨xs, vs, fz, q1, q2, q3, q4, q5⟩ := ro_c hR e1
                        have hlen := q4.len
                        have ol : ((xs.drop o2).take (l * i.size)).length = l * i.size := by simp; omega
                        have hrun := run_grow (P := P) (ty := o.type) (base := some ⟨b.1, o2, none⟩) (sLen := l) (sCap := kk) (olds := (xs.drop o2).take (l * i.size)) hu hu2 hd2 hi hz g3 (fun w1 hw => by
                          have := run_loadCells_list (P := P) w1 ⟨b.1, o2, none⟩ ((xs.drop o2).take (l * i.size)) (fun i v hv => by rw [add_plain, cell_world hw]; exact cell_c q1 (take_drop_get hv))
                          rw [ol] at this
                          exact this) (by omega) r1 r2
                        refine ⟨(xs.drop o2).take (l * i.size) ++ us, (Builtin.zeroCells z.cells (grownCap w (l + q) kk e - (l + q))).toList, (0, 0), w.drew, _, rfl, rfl, rfl, rfl, app_ex ho (by rw [e2, hrun]; congr 2; congr 1; apply Array.ext'; simp), no_fz _, ((q4.drop o2).take _).append (full g1 g2 (nlen g1 g2)), fun h => (by cases h), fun β' hβ hk => rx_s.2 ⟨_, _, hk, rfl, grownCap_ge w (l + q) kk e, fun c' hc => (by cases hc), fun _ => ?_⟩⟩
                        rw [grown_size hzs, List.length_append, ol, g2, ← Nat.add_mul, ← Nat.add_mul, Nat.zero_add, Nat.add_sub_cancel' (grownCap_ge w (l + q) kk e)]
                · cases h
              · -- a row that has grown
                rename_i m l zz
                split at h
                · rename_i cs ty hm
                  cases hzz : (Nat.beq zz i.size && Nat.beq ty e && Nat.ble (l * i.size) cs.length) with
                  | false => rw [hzz] at h; cases h
                  | true =>
                    rw [hzz, cond_true] at h
                    simp only [Bool.and_eq_true] at hzz
                    have hzz' := Nat.eq_of_beq_eq_true hzz.1.1
                    have hty := Nat.eq_of_beq_eq_true hzz.1.2
                    have hcl := Nat.le_of_ble_eq_true hzz.2
                    subst hzz' hty
                    cases hq : Nat.beq q 0 with
                    | true =>
                      rw [hq, cond_true] at h
                      injection h with h
                      subst h
                      have hq0 := Nat.eq_of_beq_eq_true hq
                      subst hq0
                      refine opS_still hd fun σ' hok a w β hF => ?_
                      have hrx := ev_get hok hF ms hs
                      obtain ⟨b, kk, e1, e2, e3, e4, e5⟩ := rx_s.1 hrx
                      obtain ⟨us, g1, g2, g3⟩ := src hF (fun m' hm' => hok.n m' (by simp [hm'])) (ev_get hok hF mx hx)
                      have hus : us = [] := List.eq_nil_of_length_eq_zero (by simpa using g2)
                      subst hus
                      have hrun := run_room (P := P) (ty := o.type) (a := ⟨b.1, 0, none⟩) (w' := w) (sLen := l) (sCap := kk) hu hu2 hd2 hi g3 (by omega) rfl
                      exact ⟨_, app_ex ho (by rw [e2]; exact hrun), by rw [Nat.add_zero, ← e2]; exact hrx⟩
                    | false =>
                      rw [hq, cond_false] at h
                      have hq0 : q ≠ 0 := fun e => by rw [e] at hq; cases hq
                      cases hrm : roomB (l + q) i.bytes with
                      | false => rw [hrm] at h; cases h
                      | true =>
                        rw [hrm, cond_true] at h
                        injection h with h
                        subst h
                        obtain ⟨r1, r2⟩ := room_of hrm
                        intro σ' hok a w hst K Q hK
                        obtain ⟨β, hF⟩ := hst.f
                        obtain ⟨b, kk, e1, e2, e3, e4, e5⟩ := rx_s.1 (ev_get hok hF ms hs)
                        obtain ⟨us, g1, g2, g3⟩ := src hF (fun m' hm' => hok.n m' (by simp [Res.eff, hm'])) (ev_get hok hF mx hx)
                        have hm' : σ'.n m = .c cs ty true := by rw [hok.n m (by simp [Res.eff])]; exact hm
                        have hR := hF.n m
                        rw [hm'] at hR
                        have hfull := full g1 g2 (nlen g1 g2)
                        have hnl := nlen g1 g2
                        obtain ⟨xs0, vs0, fz, p1, p2, p3, p4, p5⟩ := ro_c hR e1
                        obtain ⟨xs, vs, hxs, hvs⟩ : ∃ xs vs, xs = xs0.take (l * i.size) ∧ vs = xs0.drop (l * i.size) ++ vs0 := ⟨_, _, rfl, rfl⟩
                        have hxv : xs ++ vs = xs0 ++ vs0 := by rw [hxs, hvs, ← List.append_assoc, List.take_append_drop]
                        have hxl0 : xs.length + vs.length = xs0.length + vs0.length := by have := congrArg List.length hxv; simpa using this
                        have q1 : w.heap[b.1]? = some (.cells (xs ++ vs).toArray ty fz) := by rw [hxv]; exact p1
                        have q2 : xs.length + vs.length = b.2 := by omega
                        have q3 : ∀ o, o < xs.length + vs.length → ¬ (fz.1 ≤ o ∧ o < fz.2) := fun o ho => p3 o (by omega)
                        have q4 : Rxs β (cs.take (l * i.size)) xs := by rw [hxs]; exact p4.take _
                        have hlen := q4.len
                        have hcl' : (cs.take (l * i.size)).length = l * i.size := by rw [List.length_take]; omega
                        have hkz := e5 rfl
                        rw [Nat.zero_add] at hkz
                        have hfrk : σ'.n k = .no := hok.f k (by simp [Res.eff])
                        by_cases hroom : l + q ≤ kk
                        · have hmul : (l + q) * i.size ≤ kk * i.size := Nat.mul_le_mul_right _ hroom
                          rw [Nat.add_mul] at hmul
                          have hst2 := run_stores (P := P) b.1 (l * i.size) ty fz us 0 (xs ++ vs).toArray w q1 (by simpa using q3) (by simp; omega) (ones_rx hfull hck.2)
                          have e3' : ((xs ++ vs).toArray.toList.take (l * i.size + 0) ++ us ++ (xs ++ vs).toArray.toList.drop (l * i.size + 0 + us.length)) = (xs ++ us) ++ vs.drop us.length := by
                            have hxl : xs.length = l * i.size := by omega
                            simp only [Nat.add_zero]
                            rw [List.take_append_of_le_length (by omega), List.take_of_length_le (by omega), List.drop_append, List.drop_eq_nil_of_le (by omega)]
                            simp [hxl]
                          rw [e3'] at hst2
                          have hrun := run_room (P := P) (ty := o.type) (a := ⟨b.1, 0, none⟩) (sLen := l) (sCap := kk) hu hu2 hd2 hi g3 hroom (by rw [add_plain, Nat.zero_add]; exact hst2)
                          refine owp_v (app_ex ho (by rw [e2]; exact hrun)) ?_
                          refine hK _ _ (hst.swap (w' := w.setRow b.1 ((xs ++ us) ++ vs.drop us.length).toArray) (ob := .c (cs.take (l * i.size) ++ news) ty true) (g0 := b) hF (m := m) (by rw [hm']; rfl) e1 hfrk rfl rfl rfl rfl (by simp) (fun g hg hne => setRow_other w b.1 g _ hne) (.inl rfl) (fun β' hβ hk => ⟨b, xs ++ us, vs.drop us.length, fz, hk, setRow_heap w b.1 _ _ ty fz q1, by simp; omega, fun j hj => q3 j (by simp at hj; omega), (q4.append hfull).mono hβ, fun h => (by cases h)⟩) hd (fun β' hβ hk => rx_s.2 ⟨b, kk, hk, rfl, hroom, fun c' hc => (by cases hc), fun _ => by rw [Nat.zero_add]; exact hkz⟩) _)
                        · have hrun := run_grow (P := P) (ty := o.type) (base := some ⟨b.1, 0, none⟩) (sLen := l) (sCap := kk) (olds := xs) hu hu2 hd2 hi hz g3 (fun w1 hw => by
                            have := run_loadCells_list (P := P) w1 ⟨b.1, 0, none⟩ xs (fun i v hv => by rw [add_plain, cell_world hw, Nat.zero_add]; exact cell_c q1 hv)
                            rw [show xs.length = l * i.size by omega] at this
                            exact this) (by omega) r1 r2
                          refine owp_v (app_ex ho (by rw [e2]; exact hrun)) ?_
                          have hgz := grown_size (w := w) (need := l + q) (old := kk) (e := ty) hzs
                          have hge := grownCap_ge w (l + q) kk ty
                          have hcs : (xs.toArray ++ us.toArray ++ Builtin.zeroCells z.cells (grownCap w (l + q) kk ty - (l + q))) = ((xs ++ us) ++ (Builtin.zeroCells z.cells (grownCap w (l + q) kk ty - (l + q))).toList).toArray := by apply Array.ext'; simp
                          have htot : xs.length + us.length + (grownCap w (l + q) kk ty - (l + q)) * i.size = grownCap w (l + q) kk ty * i.size := by
                            rw [show xs.length = l * i.size by omega, g2, ← Nat.add_mul, ← Nat.add_mul, Nat.add_sub_cancel' hge]
                          refine hK _ _ (hst.swap (w' := w.drew.alloc (.cells (xs.toArray ++ us.toArray ++ Builtin.zeroCells z.cells (grownCap w (l + q) kk ty - (l + q))) ty)) (ob := .c (cs.take (l * i.size) ++ news) ty true) (g0 := (w.heap.size, grownCap w (l + q) kk ty * i.size)) hF (m := m) (by rw [hm']; rfl) e1 hfrk rfl rfl rfl rfl (by simp) (fun g hg hne => Below.heap_alloc w.drew _ g hg) (.inr rfl) (fun β' hβ hk => ?_) hd (fun β' hβ hk => rx_s.2 ⟨_, _, hk, rfl, hge, fun c' hc => (by cases hc), fun _ => by rw [Nat.zero_add]⟩) _)
                          refine ⟨_, xs ++ us, (Builtin.zeroCells z.cells (grownCap w (l + q) kk ty - (l + q))).toList, (0, 0), hk, ?_, ?_, no_fz _, (q4.append hfull).mono hβ, fun h => (by cases h)⟩
                          · rw [← hcs]; exact Go.heap_alloc_new w.drew _
                          · rw [hgz, List.length_append]; exact htot
                · cases h
              · cases h
          · cases h
        · cases h
      · cases h
  · cases h
end
end Go.Proofs.Ytobgdemhadlgnaa.Ev

namespace Go.Proofs.Ytobgdemhadlgnaa.Ev
open Go Go.RowKit
section
variable {P : Program} {N : Nat} {w0 : World} {D : Dom}
def nInt (n : Nat) : XV := .v (.int .i64 n)
/-! ### lengths -/
def xLen (P : Program) (n : Nat → XO) (t : TypeId) (c : XV) : Option Res :=
  match P.underlying t, c with
  | some (.slice _), .s _ _ k _ _ => some { x := nInt k }
  | some (.slice _), .e => some { x := nInt 0 }
  | some (.map _ _), .mr m => match n m with
    | .mp es _ => some { x := nInt es.length, rn := [m] }
    | _ => none
  | _, _ => none
theorem res_len {β : Nat → Option (Nat × Nat)} : ∀ {cs : List (Value × XV × Nat)} {es : List MapEntry}, REs β cs es → es.length = cs.length
  | [], es, h => by have h' : es = [] := h; rw [h']; rfl
  | c :: cs, es, h => by obtain ⟨e, r, rfl, _, _, _, h5⟩ := h; simp [res_len h5]
theorem len_ok {o : Oper} {σ : AS} {t : TypeId} {x : Operand} (ho : o.op = .call { callee := .builtin .len, args := #[x], argTypes := #[t] }) {c : XV} (hx : σ.ev x = some c) {r : Res} (h : xLen P σ.n t c = some r) (hd : dOk o N = true) : OpS P N w0 D o σ (r.eff o) := by
  have mx : x ∈ o.op.operands := by simp [ho, Op.operands, Call.operands]
  unfold xLen at h
  split at h
  · rename_i e m oo k cc z hu
    injection h with h; subst h
    refine opS_still hd fun σ' hok a w β hF => ?_
    obtain ⟨b, q, g1, g2, _⟩ := rx_s.1 (ev_get hok hF mx hx)
    exact ⟨_, by simp [execOp, ho, resolve, invoke, builtin, Builtin.len_, g2, run_underlying hu, goInt], rx_v.2 rfl⟩
  · rename_i e hu
    injection h with h; subst h
    refine opS_still hd fun σ' hok a w β hF => ?_
    obtain ⟨A, q, g2⟩ := rx_e.1 (ev_get hok hF mx hx)
    exact ⟨_, by simp [execOp, ho, resolve, invoke, builtin, Builtin.len_, g2, run_underlying hu, goInt], rx_v.2 rfl⟩
  · rename_i e1 e2 m hu
    split at h
    · rename_i es ck hm
      injection h with h; subst h
      refine opS_still hd fun σ' hok a w β hF => ?_
      obtain ⟨b, g1, g2⟩ := rx_m.1 (ev_get hok hF mx hx)
      have hm' : σ'.n m = .mp es ck := by rw [hok.n m (by simp)]; exact hm
      have hR := hF.n m
      rw [hm'] at hR
      obtain ⟨b', ents, q1, q2, q3⟩ := hR
      rw [g1] at q1; injection q1 with q1; subst q1
      have hl := res_len q3
      exact ⟨.int .i64 es.length, by simp [execOp, ho, resolve, invoke, builtin, Builtin.len_, g2, run_underlying hu, goInt, getObj, Sem.run, q2, hl], rx_v.2 rfl⟩
    · cases h
  · cases h
def xCap (P : Program) (t : TypeId) (c : XV) : Option Res :=
  match P.underlying t, c with
  | some (.slice _), .s _ _ _ (some k) _ => some { x := nInt k }
  | some (.slice _), .s _ _ l none _ => bif Nat.beq l 0 then none else some { x := .q }
  | _, _ => none
theorem cap_ok {o : Oper} {σ : AS} {t : TypeId} {x : Operand} (ho : o.op = .call { callee := .builtin .cap, args := #[x], argTypes := #[t] }) {c : XV} (hx : σ.ev x = some c) {r : Res} (h : xCap P t c = some r) (hd : dOk o N = true) : OpS P N w0 D o σ (r.eff o) := by
  have mx : x ∈ o.op.operands := by simp [ho, Op.operands, Call.operands]
  unfold xCap at h
  split at h
  · rename_i e m oo k cc z hu
    injection h with h; subst h
    refine opS_still hd fun σ' hok a w β hF => ?_
    obtain ⟨b, q, g1, g2, g3, g4, _⟩ := rx_s.1 (ev_get hok hF mx hx)
    have := g4 _ rfl
    subst this
    exact ⟨_, by simp [execOp, ho, resolve, invoke, builtin, Builtin.cap_, g2, run_underlying hu, goInt], rx_v.2 rfl⟩
  · rename_i e m oo k z hu
    cases hk : Nat.beq k 0 with
    | true => rw [hk] at h; cases h
    | false =>
      rw [hk] at h
      injection h with h; subst h
      refine opS_still hd fun σ' hok a w β hF => ?_
      obtain ⟨b, q, g1, g2, g3, g4, _⟩ := rx_s.1 (ev_get hok hF mx hx)
      have hk' : k ≠ 0 := fun e => by rw [e] at hk; exact absurd hk (by decide)
      exact ⟨.int .i64 (q : Int), by simp [execOp, ho, resolve, invoke, builtin, Builtin.cap_, g2, run_underlying hu, goInt], rx_q.2 ⟨_, by omega, rfl⟩⟩
  · cases h
/-! ### copy -/
def xCopy (P : Program) (n : Nat → XO) (t : TypeId) (dst src : XV) : Option Res :=
  match P.underlying t with
  | some (.slice e) => match P.info? e with
    | some i => match srcX n i.size src with
      | some (q, news, rn) => bif news.all XV.one then
          match dst with
          | .s m o l _ zz => match n m with
            | .c cs ty opn => bif Nat.beq zz i.size && Nat.ble (o + ((news.take (Nat.min q l * i.size)).length)) cs.length then
                some { x := nInt (Nat.min q l), nw := [(m, .c (spliceX cs o (news.take (Nat.min q l * i.size))) ty opn)], rn := m :: rn }
              else none
            | _ => none
          | .v (.slice none 0 _) => some { x := nInt 0, rn := rn }
          | _ => none
        else none
      | none => none
    | none => none
  | _ => none
theorem copy_ok {o : Oper} {σ : AS} {t t2 : TypeId} {s x : Operand} (ho : o.op = .call { callee := .builtin .copy, args := #[s, x], argTypes := #[t, t2] }) {c d : XV} (hs : σ.ev s = some c) (hx : σ.ev x = some d) {r : Res} (h : xCopy P σ.n t c d = some r) (hd : dOk o N = true) : OpS P N w0 D o σ (r.eff o) := by
  have ms : s ∈ o.op.operands := by simp [ho, Op.operands, Call.operands]
  have mx : x ∈ o.op.operands := by simp [ho, Op.operands, Call.operands]
  unfold xCopy at h
  split at h
  · rename_i e hu
    split at h
    · rename_i i hi
      split at h
      · rename_i q news rn hsrc
        cases hck : news.all XV.one with
        | false => rw [hck] at h; cases h
        | true =>
          rw [hck, cond_true] at h
          have hone : ∀ k, (news.take k).all XV.one = true := fun k => List.all_eq_true.2 fun y hy => List.all_eq_true.1 hck y (List.mem_of_mem_take hy)
          split at h
          · rename_i m oo l cc zz
            split at h
            · rename_i cs ty opn hm
              cases hzz : (Nat.beq zz i.size && Nat.ble (oo + ((news.take (Nat.min q l * i.size)).length)) cs.length) with
              | false => rw [hzz] at h; cases h
              | true =>
                rw [hzz, cond_true] at h
                simp only [Bool.and_eq_true] at hzz
                have hz1 := Nat.eq_of_beq_eq_true hzz.1
                have hz2 := Nat.le_of_ble_eq_true hzz.2
                subst hz1
                injection h with h; subst h
                intro σ' hok a w hst K Q hK
                obtain ⟨β, hF⟩ := hst.f
                obtain ⟨b, kk, e1, e2, e3, e4, e5⟩ := rx_s.1 (ev_get hok hF ms hs)
                obtain ⟨us, g1, g2, g3⟩ := src_ok (P := P) hsrc (w := w) (fun m' hm' => by have := hF.n m'; rwa [hok.n m' (by simp [Res.eff, hm'])] at this) (ev_get hok hF mx hx) (Nat.min q l) (Nat.min_le_left _ _)
                have hm' : σ'.n m = .c cs ty opn := by rw [hok.n m (by simp [Res.eff])]; exact hm
                have hR := hF.n m
                rw [hm'] at hR
                obtain ⟨row, s1, s2⟩ := set_cells (P := P) hR e1 g1 (ones_rx g1 (hone _)) (o := oo) hz2
                have hex : (execOp a.eval o).run P w = .ok (.value (goInt (Nat.min q l))) (w.setRow b.1 row) := by
                  have l1 := (g3 w rfl).1
                  have l2 := (g3 w rfl).2
                  simp [execOp, ho, resolve, invoke, builtin, Builtin.copy_, e2, run_underlying hu, l1, l2, run_sizeOf'' hi, s1]
                first | refine owp_v (hex) ?_ | refine owp_s (hex) ?_
                exact hK _ _ (hst.set (w' := w.setRow b.1 row) (ob := .c (spliceX cs oo (news.take (Nat.min q l * i.size))) ty opn) hF (m := m) (by rw [hm']; rfl) e1 rfl rfl rfl rfl (by simp) (fun g hg hne => setRow_other w b.1 g _ hne) s2 hd (rx_v.2 rfl) _)
            · cases h
          · injection h with h; subst h
            refine opS_still hd fun σ' hok a w β hF => ?_
            have e1 := rx_v.1 (ev_get hok hF ms hs)
            obtain ⟨us, g1, g2, g3⟩ := src_ok (P := P) hsrc (w := w) (fun m' hm' => by have := hF.n m'; rwa [hok.n m' (by simp [hm'])] at this) (ev_get hok hF mx hx) 0 (Nat.zero_le _)
            have l1 := (g3 w rfl).1
            have l2 := (g3 w rfl).2
            exact ⟨goInt 0, by simp [execOp, ho, resolve, invoke, builtin, Builtin.copy_, e1, run_underlying hu, l1, l2, run_sizeOf'' hi, show Nat.min q 0 = 0 from Nat.min_zero q], rx_v.2 rfl⟩
          · cases h
      · cases h
    · cases h
  · cases h
/-! ### clear -/
def zcL (z : List Value) : Nat → List Value
  | 0 => []
  | n + 1 => z ++ zcL z n
theorem zcL_len (z : List Value) : ∀ n, (zcL z n).length = n * z.length
  | 0 => by simp [zcL]
  | n + 1 => by simp only [zcL, List.length_append, zcL_len z n]; rw [Nat.succ_mul]; omega
theorem zcL_get (z : List Value) : ∀ (n i : Nat), i < n * z.length → (zcL z n)[i]? = z[i % z.length]?
  | 0, i, h => by simp at h
  | n + 1, i, h => by
    simp only [zcL]
    by_cases hi : i < z.length
    · rw [List.getElem?_append_left hi, Nat.mod_eq_of_lt hi]
    · rw [List.getElem?_append_right (by omega), zcL_get z n (i - z.length) (by rw [Nat.succ_mul] at h; omega), ← Nat.mod_eq_sub_mod (by omega)]
theorem zeroCells_zcL (z : Array Value) (n : Nat) : (Builtin.zeroCells z n).toList = zcL z.toList n := by
  apply List.ext_getElem?
  intro i
  by_cases hi : i < n * z.size
  · have hz : 0 < z.size := Nat.pos_of_ne_zero (fun e => by rw [e] at hi; simp at hi)
    rw [zcL_get _ _ _ (by simpa using hi)]
    have hm : i % z.size < z.size := Nat.mod_lt _ hz
    simp [Builtin.zeroCells, hi, hm]
  · rw [List.getElem?_eq_none (by simp [Builtin.zeroCells]; omega), List.getElem?_eq_none (by rw [zcL_len]; simpa using hi)]
theorem rxs_vl {β : Nat → Option (Nat × Nat)} (l : List Value) : Rxs β (l.map XV.v) l := rxs_map (fun x => rx_v.2 rfl) l
/-- the cells of a row become zero -/
def xClear (P : Program) (n : Nat → XO) (t : TypeId) (c : XV) : Option Res :=
  match P.underlying t, c with
  | some (.slice e), .s m o l _ zz => bif Nat.beq l 0 then none else (match (P.info? e).bind (·.zero) with
    | some z => let news := (zcL z.cells.toList l).map XV.v
      bif news.all XV.one then (match n m with
        | .c cs ty opn => bif Nat.ble (o + news.length) cs.length then some { x := .v undef, nw := [(m, .c (spliceX cs o news) ty opn)], rn := [m] } else none
        | _ => none) else none
    | none => none)
  | some (.slice _), .v (.slice none _ _) => some { x := .v undef }
  | some (.slice _), .e => some { x := .v undef }
  | _, _ => none
theorem clear_ok {o : Oper} {σ : AS} {t : TypeId} {x : Operand} (ho : o.op = .call { callee := .builtin .clear, args := #[x], argTypes := #[t] }) {c : XV} (hx : σ.ev x = some c) {r : Res} (h : xClear P σ.n t c = some r) (hd : dOk o N = true) : OpS P N w0 D o σ (r.eff o) := by
  have mx : x ∈ o.op.operands := by simp [ho, Op.operands, Call.operands]
  unfold xClear at h
  split at h
  · rename_i e m oo l cc zz hu
    cases hl : Nat.beq l 0 with
    | true => rw [hl] at h; cases h
    | false =>
      rw [hl, cond_false] at h
      have hl0 : l ≠ 0 := fun e => by rw [e] at hl; exact absurd hl (by decide)
      split at h
      · rename_i z hz
        obtain ⟨i, hi1, hi2⟩ := info_zero hz
        simp only at h
        cases hck : ((zcL z.cells.toList l).map XV.v).all XV.one with
        | false => rw [hck] at h; cases h
        | true =>
          rw [hck, cond_true] at h
          split at h
          · rename_i cs ty opn hm
            cases hle : Nat.ble (oo + ((zcL z.cells.toList l).map XV.v).length) cs.length with
            | false => rw [hle] at h; cases h
            | true =>
              rw [hle, cond_true] at h
              injection h with h; subst h
              intro σ' hok a w hst K Q hK
              obtain ⟨β, hF⟩ := hst.f
              obtain ⟨b, kk, e1, e2, e3, e4, e5⟩ := rx_s.1 (ev_get hok hF mx hx)
              have hm' : σ'.n m = .c cs ty opn := by rw [hok.n m (by simp [Res.eff])]; exact hm
              have hR := hF.n m
              rw [hm'] at hR
              obtain ⟨row, s1, s2⟩ := set_cells (P := P) hR e1 (rxs_vl (zcL z.cells.toList l)) (ones_rx (β := fun _ => none) (rxs_vl _) hck) (o := oo) (Nat.le_of_ble_eq_true hle)
              have hzv : (zeroValue e).run P w = .ok z w := by simp [zeroValue, typeInfo, hi1, hi2]
              have hex : (execOp a.eval o).run P w = .ok (.value undef) (w.setRow b.1 row) := by
                have hc : (Builtin.clear_ #[t] o.type #[a.eval x]).run P w = .ok undef (w.setRow b.1 row) := by
                  rw [e2]
                  unfold Builtin.clear_
                  have hl' : ∃ q, l = q + 1 := ⟨l - 1, by omega⟩
                  obtain ⟨q, rfl⟩ := hl'
                  simp only [List.getElem?_toArray, List.getElem?_cons_zero, Sem.run_bind, run_underlying hu, Result.andThen_ok]
                  simp only [Sem.run_bind, hzv, Result.andThen_ok, zeroCells_zcL, s1, Sem.run_pure]
                  rfl
                simp [execOp, ho, resolve, invoke, builtin, hc]
              refine owp_v hex ?_
              exact hK _ _ (hst.set (w' := w.setRow b.1 row) (ob := .c (spliceX cs oo ((zcL z.cells.toList l).map XV.v)) ty opn) hF (m := m) (by rw [hm']; rfl) e1 rfl rfl rfl rfl (by simp) (fun g hg hne => setRow_other w b.1 g _ hne) s2 hd (rx_v.2 rfl) _)
          · cases h
      · cases h
  · rename_i e nn kk hu
    injection h with h; subst h
    refine opS_still hd fun σ' hok a w β hF => ?_
    have e1 := rx_v.1 (ev_get hok hF mx hx)
    refine ⟨undef, ?_, rx_v.2 rfl⟩
    have hc : (Builtin.clear_ #[t] o.type #[a.eval x]).run P w = .ok undef w := by
      rw [e1]
      unfold Builtin.clear_
      simp only [List.getElem?_toArray, List.getElem?_cons_zero, Sem.run_bind, run_underlying hu, Result.andThen_ok]
      rfl
    simp [execOp, ho, resolve, invoke, builtin, hc]
  · rename_i e hu
    injection h with h; subst h
    refine opS_still hd fun σ' hok a w β hF => ?_
    obtain ⟨A, k, e1⟩ := rx_e.1 (ev_get hok hF mx hx)
    refine ⟨undef, ?_, rx_v.2 rfl⟩
    have hc : (Builtin.clear_ #[t] o.type #[a.eval x]).run P w = .ok undef w := by
      rw [e1]
      unfold Builtin.clear_
      simp only [List.getElem?_toArray, List.getElem?_cons_zero, Sem.run_bind, run_underlying hu, Result.andThen_ok]
      cases A <;> rfl
    simp [execOp, ho, resolve, invoke, builtin, hc]
  · cases h
/-! ### what is not nil -/
def xNilCheck (c : XV) : Option Res :=
  match c with
  | .p m o => some { x := .p m o }
  | .f g cs => some { x := .f g cs }
  | _ => none
theorem nilCheck_ok {o : Oper} {σ : AS} {x : Operand} (ho : o.op = .nilCheck x) {c : XV} (hx : σ.ev x = some c) {r : Res} (h : xNilCheck c = some r) (hd : dOk o N = true) : OpS P N w0 D o σ (r.eff o) := by
  unfold xNilCheck at h
  split at h
  · injection h with h; subst h
    refine opS_still hd fun σ' hok a w β hF => ?_
    have hr := ev_get hok hF (x := x) (by simp [ho, Op.operands]) hx
    obtain ⟨b, g1, g2⟩ := rx_p.1 hr
    exact ⟨a.eval x, by simp [execOp, ho, g2], hr⟩
  · injection h with h; subst h
    refine opS_still hd fun σ' hok a w β hF => ?_
    have hr := ev_get hok hF (x := x) (by simp [ho, Op.operands]) hx
    obtain ⟨vs, g1, g2⟩ := rx_f.1 hr
    exact ⟨a.eval x, by simp [execOp, ho, g1], hr⟩
  · cases h
def eqX (d : TypeDesc) (a b : XV) : Option Bool :=
  match d, a, b with
  | .pointer _, .p _ _, .v (.pointer none) => some false
  | .pointer _, .v (.pointer none), .p _ _ => some false
  | .slice _, .s _ _ _ _ _, .v (.slice none _ _) => some false
  | .slice _, .v (.slice none _ _), .s _ _ _ _ _ => some false
  | .map _ _, .mr _, .v (.map none) => some false
  | .map _ _, .v (.map none), .mr _ => some false
  | .func _ _ _, .f _ _, .v .nilFunc => some false
  | .func _ _ _, .v .nilFunc, .f _ _ => some false
  | _, _, _ => none
theorem eqX_run {t : TypeId} {d : TypeDesc} (hu : P.underlying t = some d) {a b : XV} {r : Bool} (h : eqX d a b = some r) {β : Nat → Option (Nat × Nat)} {x y : Value} (hx : Rx β a x) (hy : Rx β b y) (w : World) :
    (Op.equal t x y).run P w = .ok r w ∧ (∀ (i j : Operand) (op : BinOp), (eqGuard op t i j x y).run P w = .ok () w) ∧ binOp .eql t x y = (do pure (.bool (← Op.equal t x y))) ∧ binOp .neq t x y = (do pure (.bool (!(← Op.equal t x y)))) := by
  unfold eqX at h
  split at h
  · injection h with h; subst h
    obtain ⟨q, _, rfl⟩ := rx_p.1 hx
    rw [rx_v.1 hy]
    exact ⟨(show ∀ n, (Op.equalIn (n + 1) t _ _).run P w = .ok false w from fun n => by unfold Op.equalIn; rw [Sem.run_bind, run_underlying hu]; rfl) 9999, fun i j op => by cases op <;> rfl, rfl, rfl⟩
  · injection h with h; subst h
    obtain ⟨q, _, rfl⟩ := rx_p.1 hy
    rw [rx_v.1 hx]
    exact ⟨(show ∀ n, (Op.equalIn (n + 1) t _ _).run P w = .ok false w from fun n => by unfold Op.equalIn; rw [Sem.run_bind, run_underlying hu]; rfl) 9999, fun i j op => by cases op <;> rfl, rfl, rfl⟩
  · injection h with h; subst h
    obtain ⟨q, k, _, rfl, _⟩ := rx_s.1 hx
    rw [rx_v.1 hy]
    exact ⟨(show ∀ n, (Op.equalIn (n + 1) t _ _).run P w = .ok false w from fun n => by unfold Op.equalIn; rw [Sem.run_bind, run_underlying hu]; rfl) 9999, fun i j op => by cases op <;> rfl, rfl, rfl⟩
  · injection h with h; subst h
    obtain ⟨q, k, _, rfl, _⟩ := rx_s.1 hy
    rw [rx_v.1 hx]
    exact ⟨(show ∀ n, (Op.equalIn (n + 1) t _ _).run P w = .ok false w from fun n => by unfold Op.equalIn; rw [Sem.run_bind, run_underlying hu]; rfl) 9999, fun i j op => by cases op <;> rfl, rfl, rfl⟩
  · injection h with h; subst h
    obtain ⟨q, _, rfl⟩ := rx_m.1 hx
    rw [rx_v.1 hy]
    exact ⟨(show ∀ n, (Op.equalIn (n + 1) t _ _).run P w = .ok false w from fun n => by unfold Op.equalIn; rw [Sem.run_bind, run_underlying hu]; rfl) 9999, fun i j op => by cases op <;> rfl, rfl, rfl⟩
  · injection h with h; subst h
    obtain ⟨q, _, rfl⟩ := rx_m.1 hy
    rw [rx_v.1 hx]
    exact ⟨(show ∀ n, (Op.equalIn (n + 1) t _ _).run P w = .ok false w from fun n => by unfold Op.equalIn; rw [Sem.run_bind, run_underlying hu]; rfl) 9999, fun i j op => by cases op <;> rfl, rfl, rfl⟩
  · injection h with h; subst h
    obtain ⟨vs, rfl, _⟩ := rx_f.1 hx
    rw [rx_v.1 hy]
    exact ⟨(show ∀ n, (Op.equalIn (n + 1) t _ _).run P w = .ok false w from fun n => by unfold Op.equalIn; rw [Sem.run_bind, run_underlying hu]; rfl) 9999, fun i j op => by cases op <;> rfl, rfl, rfl⟩
  · injection h with h; subst h
    obtain ⟨vs, rfl, _⟩ := rx_f.1 hy
    rw [rx_v.1 hx]
    exact ⟨(show ∀ n, (Op.equalIn (n + 1) t _ _).run P w = .ok false w from fun n => by unfold Op.equalIn; rw [Sem.run_bind, run_underlying hu]; rfl) 9999, fun i j op => by cases op <;> rfl, rfl, rfl⟩
  · cases h
def xEq (P : Program) (op : BinOp) (t : TypeId) (a b : XV) : Option Res :=
  match P.underlying t with
  | some d => match eqX d a b with
    | some r => match op with
      | .eql => some { x := .v (.bool r) }
      | .neq => some { x := .v (.bool (!r)) }
      | _ => none
    | none => none
  | none => none
theorem eq_ok {o : Oper} {σ : AS} {op : BinOp} {t t' : TypeId} {x y : Operand} (ho : o.op = .binOp op t x y t') {a b : XV} (hx : σ.ev x = some a) (hy : σ.ev y = some b) {r : Res} (h : xEq P op t a b = some r) (hd : dOk o N = true) : OpS P N w0 D o σ (r.eff o) := by
  unfold xEq at h
  split at h
  · rename_i d hu
    split at h
    · rename_i q hq
      split at h
      · injection h with h; subst h
        refine opS_still hd fun σ' hok ac w β hF => ?_
        obtain ⟨g1, g2, g3, g4⟩ := eqX_run (P := P) hu hq (ev_get hok hF (x := x) (by simp [ho, Op.operands]) hx) (ev_get hok hF (x := y) (by simp [ho, Op.operands]) hy) w
        refine ⟨_, ?_, rx_v.2 rfl⟩
        unfold execOp
        simp only [ho, Sem.run_bind, g2, Result.andThen_ok, g3, g1, Sem.run_pure]
      · injection h with h; subst h
        refine opS_still hd fun σ' hok ac w β hF => ?_
        obtain ⟨g1, g2, g3, g4⟩ := eqX_run (P := P) hu hq (ev_get hok hF (x := x) (by simp [ho, Op.operands]) hx) (ev_get hok hF (x := y) (by simp [ho, Op.operands]) hy) w
        refine ⟨_, ?_, rx_v.2 rfl⟩
        unfold execOp
        simp only [ho, Sem.run_bind, g2, Result.andThen_ok, g4, g1, Sem.run_pure]
      · cases h
    · cases h
  · cases h
/-! ### fields of values -/
def xFieldV (P : Program) (t : TypeId) (f : Nat) (c : XV) : Option Res :=
  match P.underlying t, c with
  | some (.struct fs), .a cs => match fs[f]? with
    | some fd => match P.underlying fd.type with
      | some d => bif aggD d then (match P.info? fd.type with
          | some i => some { x := .a ((cs.drop fd.offset).take i.size) }
          | none => none)
        else (match cs[fd.offset]? with | some x => some { x := x } | none => none)
      | none => none
    | none => none
  | _, _ => none
theorem fieldV_ok {o : Oper} {σ : AS} {t : TypeId} {x : Operand} {f : Nat} (ho : o.op = .field t x f) {c : XV} (hx : σ.ev x = some c) {r : Res} (h : xFieldV P t f c = some r) (hd : dOk o N = true) : OpS P N w0 D o σ (r.eff o) := by
  unfold xFieldV at h
  split at h
  · rename_i fs cs hu
    split at h
    · rename_i fd hf
      split at h
      · rename_i d hud
        cases ha : aggD d with
        | true =>
          rw [ha, cond_true] at h
          split at h
          · rename_i i hi
            injection h with h; subst h
            refine opS_still hd fun σ' hok a w β hF => ?_
            obtain ⟨vs, g1, g2⟩ := rx_a.1 (ev_get hok hF (x := x) (by simp [ho, Op.operands]) hx)
            refine ⟨.agg ((vs.drop fd.offset).take i.size).toArray, ?_, rx_a.2 ⟨_, rfl, (g2.drop _).take _⟩⟩
            have hag := run_isAgg' (P := P) hud w
            rw [ha] at hag
            unfold execOp
            simp only [ho, Instr.field, Sem.run_bind, run_underlying hu, Result.andThen_ok, hf, g1, asAgg, Sem.run_pure, part, hag, if_true, run_sizeOf'' hi]
            congr 3
            apply Array.ext'
            simp [List.take_drop]
          · cases h
        | false =>
          rw [ha, cond_false] at h
          split at h
          · rename_i y hy
            injection h with h; subst h
            refine opS_still hd fun σ' hok a w β hF => ?_
            obtain ⟨vs, g1, g2⟩ := rx_a.1 (ev_get hok hF (x := x) (by simp [ho, Op.operands]) hx)
            obtain ⟨u, hu', hru⟩ := g2.get hy
            refine ⟨u, ?_, hru⟩
            have hag := run_isAgg' (P := P) hud w
            rw [ha] at hag
            unfold execOp
            simp only [ho, Instr.field, Sem.run_bind, run_underlying hu, Result.andThen_ok, hf, g1, asAgg, Sem.run_pure, part, hag]
            simp [hu']
          · cases h
      · cases h
    · cases h
  · cases h
end
end Go.Proofs.Ytobgdemhadlgnaa.Ev

