/- Structs and slices built of parts; strings; the rules in the form in which they are used. Conditions: as each theorem names them. -/
import Derived.Test.YteplcjhnmmpicaaAv7
set_option linter.unusedSimpArgs false
set_option linter.unusedVariables false
namespace Go.Proofs.Yteplcjhnmmpicaa.Av
open Go Go.RowKit
section
variable {P : Program} {N : Nat} {w0 : World} {U0 : Nat → Nat}
def TI (P : Program) (t : TypeId) (z : Value) (s b : Nat) : Prop := ∃ i, P.info? t = some i ∧ i.zero = some z ∧ i.size = s ∧ i.bytes = b
theorem ti_of {t : TypeId} {z : Value} {s b : Nat} (h : (P.info? t).map (fun i => (i.zero, i.size, i.bytes)) = some (some z, s, b)) : TI P t z s b := info_parts h
/-! ### parts -/
theorem fold_splice (off : Nat) : ∀ (l : List Value) (k : Nat) (acc : Array Value), off + k + l.length ≤ acc.size →
    ((l.zipIdx k).foldl (fun cs (p : Value × Nat) => cs.setIfInBounds (off + p.2) p.1) acc) = (acc.toList.take (off + k) ++ l ++ acc.toList.drop (off + k + l.length)).toArray := by
  intro l
  induction l with
  | nil => intro k acc _; simp
  | cons v l ih =>
    intro k acc h
    simp only [List.length_cons] at h
    simp only [List.zipIdx_cons, List.foldl_cons]
    rw [ih (k + 1) _ (by simp; omega)]
    congr 1
    simp only [Array.toList_setIfInBounds, List.length_cons]
    have h1 : (acc.toList.set (off + k) v).take (off + (k + 1)) = acc.toList.take (off + k) ++ [v] := by
      rw [show off + (k + 1) = off + k + 1 by omega, List.take_succ_eq_append_getElem (by simp; omega), List.take_set_of_le (Nat.le_refl _)]
      simp
    have h2 : (acc.toList.set (off + k) v).drop (off + (k + 1) + l.length) = acc.toList.drop (off + k + (l.length + 1)) := by
      rw [List.drop_set_of_lt (by omega)]
      congr 1
      omega
    rw [h1, h2]
    simp
def spl : List DV → List (Nat × DV) → List DV
  | cs, [] => cs
  | cs, (off, v) :: r => spl (cs.take off ++ dvCells v ++ cs.drop (off + (dvCells v).length)) r
/-- parts that read as data, at their places -/
inductive Pts (w : World) (U : Nat → Nat) (place : Nat → Option (Nat × Nat)) (n : Nat) : List (Nat × Value) → List (Nat × DV) → Prop
  | nil : Pts w U place n [] []
  | cons {i off s : Nat} {v : Value} {x : DV} {ps : List (Nat × Value)} {ds : List (Nat × DV)} (hp : place i = some (off, s)) (hv : Rd w U v x) (h1 : x.one = true) (hl : (dvCells x).length = s) (hn : off + s ≤ n) (hs : Pts w U place n ps ds) : Pts w U place n ((i, v) :: ps) ((off, x) :: ds)
theorem fill_rc {w : World} {U : Nat → Nat} {place : Nat → Option (Nat × Nat)} {n : Nat} {ps : List (Nat × Value)} {ds : List (Nat × DV)} (h : Pts w U place n ps ds) : ∀ (cells : Array Value) (cs : List DV), cells.size = n → Rc w U cells.toList cs → ∃ cells', Instr.fill place cells ps = some cells' ∧ cells'.size = n ∧ Rc w U cells'.toList (spl cs ds) := by
  induction h with
  | nil => intro cells cs hs hc; exact ⟨cells, rfl, hs, hc⟩
  | @cons i off s v x ps ds hp hv h1 hl hn hs ih =>
    intro cells cs hsz hc
    have hcv := cells_of hv h1
    have hvl : v.cells.size = s := by have := hcv.1.1; simp at this; omega
    have hfold := fold_splice off v.cells.toList 0 cells (by simp; omega)
    simp only [Nat.add_zero] at hfold
    have hrc := hc.splice hcv off
    have hzip : v.cells.zipIdx.toList = v.cells.toList.zipIdx := Array.toList_zipIdx
    have hsz2 : (cells.toList.take off ++ v.cells.toList ++ cells.toList.drop (off + v.cells.toList.length)).toArray.size = n := by
      simp; omega
    obtain ⟨cells', g1, g2, g3⟩ := ih (cells.toList.take off ++ v.cells.toList ++ cells.toList.drop (off + v.cells.toList.length)).toArray (cs.take off ++ dvCells x ++ cs.drop (off + (dvCells x).length)) hsz2 (by simpa using hrc)
    refine ⟨cells', ?_, g2, g3⟩
    have hcond : (v.cells.size ≠ s || off + v.cells.size > cells.size) = false := by
      have h2 : ¬ (off + s > cells.size) := by omega
      simp [hvl]
      omega
    simp only [Instr.fill, hp]
    rw [← Array.foldl_toList, hzip]
    have hfold' : (v.cells.toList.zipIdx.foldl (fun cs x => match x with | (c, j) => cs.setIfInBounds (off + j) c) cells) = _ := hfold
    rw [hfold', ← g1]
    rw [if_neg (by rw [hcond]; simp)]
inductive PtsS (σ : AS) (place : Nat → Option (Nat × Nat)) (n : Nat) : List (Nat × Operand) → List (Nat × DV) → List Nat → Prop
  | nil : PtsS σ place n [] [] []
  | cons {i off s : Nat} {o : Operand} {av : AV} {x : DV} {ps : List (Nat × Operand)} {ds : List (Nat × DV)} {rn rns : List Nat} (hp : place i = some (off, s)) (ho : σ.ev o = av) (hv : AvD σ av x rn) (h1 : x.one = true) (hl : Nat.beq (dvCells x).length s = true) (hn : Nat.ble (off + s) n = true) (hs : PtsS σ place n ps ds rns) : PtsS σ place n ((i, o) :: ps) ((off, x) :: ds) (rn ++ rns)
theorem PtsS.get {σ σ' : AS} {a : Act} {w : World} {F : Fr} (hF : Fits w0 U0 σ' a w F) {place : Nat → Option (Nat × Nat)} {n : Nat} {ps : List (Nat × Operand)} {ds : List (Nat × DV)} {rns : List Nat} (h : PtsS σ place n ps ds rns) (hrn : ∀ m ∈ rns, σ'.n m = σ.n m) (hev : ∀ p ∈ ps, σ'.ev p.2 = σ.ev p.2) : Pts w F.U place n (ps.map fun p => (p.1, a.eval p.2)) ds := by
  induction h with
  | nil => exact .nil
  | @cons i off s o av x ps ds rn rns hp ho hv h1 hl hn hs ih =>
    refine .cons hp ?_ h1 (Nat.eq_of_beq_eq_true hl) (Nat.le_of_ble_eq_true hn) (ih (fun m hm => hrn m (List.mem_append.2 (.inr hm))) (fun p hp => hev p (by simp [hp])))
    have := hF.ev o
    rw [hev (i, o) (by simp), ho] at this
    exact hv.get hF (fun m hm => hrn m (List.mem_append.2 (.inl hm))) this
def placesOf (P : Program) (fs : Array Field) : Array (Nat × Nat) := fs.map fun f => (f.offset, P.cellsOf f.type)
theorem run_places {fs : Array Field} (h : ∀ f ∈ fs, (P.info? f.type).isSome = true) (w : World) : (fs.mapM fun f => do pure (f.offset, ← sizeOf f.type) : Sem (Array (Nat × Nat))).run P w = .ok (placesOf P fs) w := by
  rw [Array.mapM_eq_mapM_toList]
  have key : ∀ l : List Field, (∀ f ∈ l, (P.info? f.type).isSome = true) → (l.mapM fun f => do pure (f.offset, ← sizeOf f.type) : Sem (List (Nat × Nat))).run P w = .ok (l.map fun f => (f.offset, P.cellsOf f.type)) w := by
    intro l
    induction l with
    | nil => intro _; rfl
    | cons f l ih =>
      intro h
      have hf := h f (by simp)
      obtain ⟨i, hi⟩ := Option.isSome_iff_exists.1 hf
      have h2 := ih (fun g hg => h g (by simp [hg]))
      simp only [List.mapM_cons, Sem.run_bind, run_sizeOf' hi, Result.andThen_ok, Sem.run_pure] at h2 ⊢
      rw [h2]
      simp [Program.cellsOf, hi]
  have := key fs.toList (fun f hf => h f (by simpa using hf))
  rw [Sem.run_map, this]
  simp only [Result.andThen_ok, placesOf]
  congr 1
  apply Array.ext'
  simp
theorem op_build {o : Oper} {σ : AS} {t : TypeId} {parts : Array (Nat × Operand)} (ho : o.op = .build t parts) {fs : Array Field} (hu : P.underlying t = some (.struct fs)) {z : Value} {s b : Nat} (hi : TI P t z s b) (hz : Nat.beq z.cells.size s = true) (h1 : (z.cells.all fun u => u.oneCell') = true) (hfs : (fs.all fun f => (P.info? f.type).isSome) = true)
    {pl : Array (Nat × Nat)} (hpl : placesOf P fs = pl) {ds : List (Nat × DV)} {rns : List Nat} (hp : PtsS σ (fun i => pl[i]?) s parts.toList ds rns) (hd : dOk o N = true) : OpS P N w0 U0 o σ ⟨o.dst.map fun d => (d, .d (.ag (spl (zeroDV z) ds))), [], rns, []⟩ :=
  opS_still (P := P) (av := .d (.ag (spl (zeroDV z) ds))) hd fun σ' hok a w F hF => by
    obtain ⟨i, g1, g2, g3, g4⟩ := hi
    have hpts := hp.get hF hok.n (fun p hp' => ev_ok hok (by simp only [ho, Op.operands]; simpa using ⟨p.1, by simpa using hp'⟩))
    have hzs := Nat.eq_of_beq_eq_true hz
    have hrc : Rc w F.U z.cells.toList (zeroDV z) := ⟨⟨by simp [zeroDV], fun j u x hu hx => by
      unfold zeroDV at hx
      rw [List.getElem?_map, hu] at hx
      simp at hx
      subst hx
      exact .fl u⟩, fun u hu => Array.all_eq_true_iff_forall_mem.1 h1 u (by simpa using hu)⟩
    obtain ⟨cells', e1, e2, e3⟩ := fill_rc hpts z.cells (zeroDV z) hzs hrc
    refine ⟨.agg cells', ?_, .ag cells' _ (by have := e3.1.1; simpa using this) e3.2 e3.1.2⟩
    have hzv : (zeroValue t).run P w = .ok z w := by simp [zeroValue, typeInfo, g1, g2]
    have hplr := run_places (P := P) (fs := fs) (fun f hf => Array.all_eq_true_iff_forall_mem.1 hfs f hf) w
    rw [hpl] at hplr
    have e1' : Instr.fill (fun i => pl[i]?) z.cells ((parts.map fun x => match x with | (i, x) => (i, a.eval x)).toList) = some cells' := by
      rw [Array.toList_map]; exact e1
    unfold execOp
    simp only [ho, Instr.build, Sem.run_bind, hzv, Result.andThen_ok, run_underlying hu]
    rw [hplr]
    simp only [Result.andThen_ok]
    rw [e1']
    rfl
theorem spl_dense {z : Nat} : ∀ (xs : List DV) (k : Nat) (pre cs : List DV), (∀ x ∈ xs, (dvCells x).length = z) → pre.length = k * z → cs.length = xs.length * z → spl (pre ++ cs) ((xs.zipIdx k).map fun p => (p.2 * z, p.1)) = pre ++ (xs.map dvCells).flatten := by
  intro xs
  induction xs with
  | nil => intro k pre cs _ _ hc; have : cs = [] := List.eq_nil_of_length_eq_zero (by simpa using hc)
           subst this; simp [spl]
  | cons x xs ih =>
    intro k pre cs hx hp hc
    have hxl := hx x (by simp)
    simp only [List.length_cons, Nat.succ_mul] at hc
    simp only [List.zipIdx_cons, List.map_cons, spl, List.flatten_cons]
    have e1 : (pre ++ cs).take (k * z) = pre := by rw [← hp]; simp
    have e2 : (pre ++ cs).drop (k * z + (dvCells x).length) = cs.drop z := by rw [← hp, hxl, List.drop_append, List.drop_eq_nil_of_le (by omega)]; simp
    rw [e1, e2]
    have := ih (k + 1) (pre ++ dvCells x) (cs.drop z) (fun y hy => hx y (by simp [hy])) (by simp [hp, hxl, Nat.succ_mul]) (by simp; omega)
    rw [this]
    simp
theorem op_slices {o : Oper} {σ : AS} {t : TypeId} {n : Nat} {parts : Array (Nat × Operand)} (ho : o.op = .buildSlice t n parts) {e : TypeId} {z : Value} {s b : Nat} (ht : P.underlying t = some (.slice e)) (hi : TI P e z s b) (hz : Nat.beq z.cells.size s = true) (hz0 : Nat.blt 0 s = true) (hz1 : Nat.ble (n * s) 16777216 = true) (h1 : (z.cells.all fun u => u.oneCell') = true)
    {xs : List DV} {rns : List Nat} (hxn : Nat.beq xs.length n = true) (hxl : (xs.all fun x => Nat.beq (dvCells x).length s) = true) (hp : PtsS σ (fun i => some (i * s, s)) (n * s) parts.toList ((xs.zipIdx 0).map fun p => (p.2 * s, p.1)) rns) (hd : dOk o N = true) : OpS P N w0 U0 o σ ⟨o.dst.map fun d => (d, .d (.sl s (xs.map dvCells))), [], rns, []⟩ :=
  opS_val (P := P) (av := .d (.sl s (xs.map dvCells))) hd fun σ' hok a w F hF hs => by
    obtain ⟨i, g1, g2, g3, g4⟩ := hi
    subst g3
    have hpts := hp.get hF hok.n (fun p hp' => ev_ok hok (by simp only [ho, Op.operands]; simpa using ⟨p.1, by simpa using hp'⟩))
    have hzs := Nat.eq_of_beq_eq_true hz
    have hz0' := Nat.le_of_ble_eq_true hz0
    have hz1' := Nat.le_of_ble_eq_true hz1
    have hxn' := Nat.eq_of_beq_eq_true hxn
    have hxl' : ∀ x ∈ xs, (dvCells x).length = i.size := fun x hx => Nat.eq_of_beq_eq_true (List.all_eq_true.1 hxl x hx)
    obtain ⟨zs, hzz⟩ : ∃ zs : Array Value, zs = ((Array.range (n * i.size)).map fun k => z.cells[k % z.cells.size]!) := ⟨_, rfl⟩
    have hzsz : zs.size = n * i.size := by rw [hzz]; simp
    have hone : ∀ u ∈ zs.toList, u.oneCell' = true := by
      intro u hu
      rw [hzz] at hu
      simp only [Array.toList_map, List.mem_map] at hu
      obtain ⟨k, hk, rfl⟩ := hu
      have hkl : k % z.cells.size < z.cells.size := Nat.mod_lt _ (by omega)
      rw [getElem!_pos z.cells (k % z.cells.size) hkl]
      exact Array.all_eq_true_iff_forall_mem.1 h1 _ (Array.getElem_mem hkl)
    have hrc : Rc w F.U zs.toList (zs.toList.map .fl) := ⟨⟨by simp, fun j u x hu hx => by
      rw [List.getElem?_map, hu] at hx
      simp at hx
      subst hx
      exact .fl u⟩, hone⟩
    obtain ⟨cells', e1, e2, e3⟩ := fill_rc hpts zs (zs.toList.map .fl) hzsz hrc
    have hspl := spl_dense (z := i.size) xs 0 [] (zs.toList.map .fl) hxl' (by simp) (by simp [hzsz, hxn'])
    simp only [List.nil_append] at hspl
    rw [hspl] at e3
    have hU2 : ∀ b, b < w.heap.size → (fun b => if b = w.heap.size then n * i.size else F.U b) b = F.U b := fun b hb => by simp; intro h; omega
    have hE : Ext w F.U (w.alloc (.cells cells' e)) (fun b => if b = w.heap.size then n * i.size else F.U b) := Up.ext ⟨fun b hlt => Below.heap_alloc w _ b hlt, hU2⟩
    refine ⟨.slice (some ⟨w.heap.size, 0, none⟩) n n, w.alloc (.cells cells' e), fun b => if b = w.heap.size then n * i.size else F.U b, ?_, (Below.refl _ _).alloc (Nat.le_refl _) _, hU2, ?_⟩
    · have hbig : ¬ (n * i.size > 2 ^ 24) := by omega
      have hzv' : ∀ w : World, (zeroValue e).run P w = .ok z w := fun w => by simp [zeroValue, typeInfo, g1, g2]
      have hnr : (newRow e cells').run P w = .ok ⟨w.heap.size, 0, none⟩ (w.alloc (.cells cells' e)) := by simp [newRow, newObj, Sem.run]
      have e1' : Instr.fill (fun j => some (j * i.size, i.size)) zs ((parts.map fun x => match x with | (i, x) => (i, a.eval x)).toList) = some cells' := by
        rw [Array.toList_map]; exact e1
      unfold execOp
      by_cases hn0 : n * i.size = 0
      · have hzs0 : ((Array.range (n * i.size)).map fun k => (#[] : Array Value)[k % (#[] : Array Value).size]!) = zs := by
          apply Array.ext'
          rw [hn0] at hzsz
          have : zs.toList = [] := by simpa using hzsz
          rw [this, hn0]
          simp
        simp only [ho, Instr.buildSlice, Sem.run_bind, run_underlying ht, Result.andThen_ok, run_sizeOf' g1, if_neg hbig, if_pos hn0, Sem.run_pure, hzs0, e1', hnr]
      · simp only [ho, Instr.buildSlice, Sem.run_bind, run_underlying ht, Result.andThen_ok, run_sizeOf' g1, if_neg hbig, if_neg hn0, Sem.run_pure, hzv', ← hzz, e1', hnr]
    · have hrz : ∀ r ∈ xs.map dvCells, r.length = i.size := fun r hr => by
        obtain ⟨x, hx, rfl⟩ := List.mem_map.1 hr
        exact hxl' x hx
      refine .sl w.heap.size 0 n n i.size (xs.map dvCells) (fun i' j => cells'.toList.getD (i' * i.size + j) undef) (by simp [hxn']) hrz (by
        have : n * 1 ≤ n * i.size := Nat.mul_le_mul_left n hz0'
        omega) (fun i' j y hy => ?_) (fun i' j y hy => ?_)
      all_goals
        unfold cellAt at hy
        obtain ⟨r, hr, hj⟩ := Option.bind_eq_some_iff.1 hy
        obtain ⟨k1, k2⟩ := flatten_get hrz hr hj
        rw [List.length_map, hxn'] at k2
        have hlt : i' * i.size + j < cells'.size := by omega
        have hu : cells'.toList[i' * i.size + j]? = some (cells'.toList.getD (i' * i.size + j) undef) := by simp [List.getD, hlt]
      · refine ⟨?_, ?_, e3.2 _ (List.mem_of_getElem? hu)⟩
        · simp only [Nat.zero_add, World.cell?_alloc_new]
          simpa using hu
        · simp only [Nat.zero_add, if_true]; exact k2
      · exact (e3.1.2 _ _ y hu k1).ext hE
/-! ### a row of the call's own is read -/
theorem op_len_ow {o : Oper} {σ : AS} {t e : TypeId} {x : Operand} (ho : o.op = .call { callee := .builtin .len, args := #[x], argTypes := #[t] }) (hu : P.underlying t = some (.slice e)) {m : Nat} {e' : TypeId} {z : Nat} {rows : List (List DV)} (hx : σ.ev x = .ow m) (hm : σ.n m = .ow e' z rows) (hd : dOk o N = true) : OpS P N w0 U0 o σ ⟨o.dst.map fun d => (d, .d (.fl (.int .i64 rows.length))), [], [m], []⟩ :=
  opS_still hd fun σ' hok a w F hF => by
    have h1 : Rd w F.U (a.eval x) (.sl z rows) := (AvD.ow hm).get hF (fun q hq => hok.n q (by simpa using hq)) (ev_get hok hF (x := x) (by simp [ho, Op.operands, Call.operands]) hx)
    obtain ⟨A, c, hv⟩ : ∃ A c, a.eval x = .slice A rows.length c := by
      generalize a.eval x = v at h1
      cases h1 with
      | sn A c z => exact ⟨A, c, rfl⟩
      | sl b off n c z rows u hn => exact ⟨_, c, by rw [hn]⟩
    exact ⟨_, by simp [execOp, ho, resolve, invoke, builtin, Builtin.len_, hv, run_underlying hu, goInt], .fl _⟩
theorem op_index_ow {o : Oper} {σ : AS} {t : TypeId} {x y : Operand} (ho : o.op = .indexAddr t x y) {e : TypeId} (hu : P.underlying t = some (.slice e)) {i : TypeInfo} (hi : P.info? e = some i) {m : Nat} {e' : TypeId} {rows : List (List DV)} (hx : σ.ev x = .ow m) (hm : σ.n m = .ow e' i.size rows)
    {k : IntKind} {n : Int} (hy : σ.ev y = .d (.fl (.int k n))) {r : List DV} (h0 : 0 ≤ n) (hr : rows[n.toNat]? = some r) (hd : dOk o N = true) : OpS P N w0 U0 o σ ⟨o.dst.map fun d => (d, .el r), [], [m], []⟩ :=
  opS_still hd fun σ' hok a w F hF => by
    have h1 : Rd w F.U (a.eval x) (.sl i.size rows) := (AvD.ow hm).get hF (fun q hq => hok.n q (by simpa using hq)) (ev_get hok hF (x := x) (by simp [ho, Op.operands]) hx)
    have h2 := flat_val (ev_get hok hF (x := y) (by simp [ho, Op.operands]) hy)
    obtain ⟨A, ln, c, hv⟩ : ∃ A ln c, a.eval x = .slice A ln c := by
      generalize a.eval x = v at h1
      cases h1 with
      | sn A c z => exact ⟨A, 0, c, rfl⟩
      | sl b off n c z rows u => exact ⟨_, n, c, rfl⟩
    rw [hv] at h1
    obtain ⟨b, off, rfl, hlt, h3⟩ := elem_at h1 hr
    refine ⟨_, ?_, h3⟩
    have hlt' : n < (ln : Int) := by omega
    simp [execOp, ho, hv, h2, Instr.indexAt, run_underlying hu, asIntOf, sizeOf, typeInfo, hi, h0, hlt', add_plain']
/-! ### strings -/
theorem op_strindex {o : Oper} {σ : AS} {t : TypeId} {x y : Operand} (ho : o.op = .index t x y) (hu : P.underlying t = some .string) {s : ByteArray} (hx : σ.ev x = .d (.fl (.string s))) {k : IntKind} {n : Int} (hy : σ.ev y = .d (.fl (.int k n))) (h0 : 0 ≤ n) {c : UInt8} (hc : s[n.toNat]? = some c) (hd : dOk o N = true) : OpS P N w0 U0 o σ ⟨o.dst.map fun d => (d, .d (.fl (.int .u8 c.toNat))), [], [], []⟩ :=
  opS_still hd fun σ' hok a w F hF => by
    have h1 := flat_val (ev_get hok hF (x := x) (by simp [ho, Op.operands]) hx)
    have h2 := flat_val (ev_get hok hF (x := y) (by simp [ho, Op.operands]) hy)
    exact ⟨_, by simp [execOp, ho, h1, h2, Instr.index, run_underlying hu, asIntOf, h0, hc], .fl _⟩
/-! ### the forms that are used -/
variable {ops : Array Oper} {k : Nat} {o : Oper} {L : List (Nat × AV)} {M : List (Nat × Ob)} {R : AS → Prop}
theorem og (hg : o.guard = none) {σ : AS} {e : Eff} (h : OpS P N w0 U0 o σ e) : OpG P N w0 U0 ops o σ e := by unfold OpG; rw [hg]; exact h
theorem oy {j : Nat} {want b : Bool} {d : Nat} (hg : o.guard = some (j, want)) (hj : ((ops[j]?).bind (·.dst)) = some d) {σ : AS} {e : Eff} (hb : σ.t d = .d (.fl (.bool b))) (he : b = want) (h : OpS P N w0 U0 o σ e) : OpG P N w0 U0 ops o σ e := by unfold OpG; rw [hg]; exact ⟨d, _, hj, hb, .inl ⟨by rw [he], h⟩⟩
theorem on {j : Nat} {want b : Bool} {d : Nat} (hg : o.guard = some (j, want)) (hj : ((ops[j]?).bind (·.dst)) = some d) {σ : AS} (hb : σ.t d = .d (.fl (.bool b))) (he : b = !want) : OpG P N w0 U0 ops o σ ⟨o.dst.map fun d => (d, .d (.fl undef)), [], [], []⟩ := by unfold OpG; rw [hg]; exact ⟨d, _, hj, hb, .inr ⟨fun b' h => by injection h with h; rw [← h, he]; cases want <;> simp, rfl⟩⟩
theorem ou {j : Nat} {want : Bool} {d : Nat} (hg : o.guard = some (j, want)) (hj : ((ops[j]?).bind (·.dst)) = some d) {σ : AS} (hb : σ.t d = .d (.fl undef)) : OpG P N w0 U0 ops o σ ⟨o.dst.map fun d => (d, .d (.fl undef)), [], [], []⟩ := by unfold OpG; rw [hg]; exact ⟨d, _, hj, hb, .inr ⟨(fun b' h => by cases h), rfl⟩⟩
theorem rg_put {d : Nat} {v : AV} {rn : List Nat} (ho : ops[k]? = some o) (h : OpG P N w0 U0 ops o (SS L M) ⟨some (d, v), [], rn, []⟩) (hr : RG P N w0 U0 ops (k + 1) (SS ((d, v) :: L) M) R) : RG P N w0 U0 ops k (SS L M) R :=
  rg_step ho h (fun m hm => by cases hm) (by rw [ap_ss]; exact hr)
theorem rg_skip (ho : ops[k]? = some o) (h : OpG P N w0 U0 ops o (SS L M) ⟨none, [], [], []⟩) (hr : RG P N w0 U0 ops (k + 1) (SS L M) R) : RG P N w0 U0 ops k (SS L M) R :=
  rg_step ho h (fun m hm => by cases hm) (by rw [ap_ss]; exact hr)
theorem rg_nam {d : Nat} {v : AV} {nw : List (Nat × Ob)} {rn : List Nat} {m : Nat} (ho : ops[k]? = some o) (h : OpG P N w0 U0 ops o (SS L M) ⟨some (d, v), nw, rn, [m]⟩) (hf : freshB L M m = true) (hr : RG P N w0 U0 ops (k + 1) (SS ((d, v) :: L) (nw ++ M)) R) : RG P N w0 U0 ops k (SS L M) R :=
  rg_step ho h (fun m' hm => by have : m' = m := by simpa using hm
                                subst this; exact fresh_ss hf) (by rw [ap_ss]; exact hr)
theorem rg_sto {nw : List (Nat × Ob)} {rn : List Nat} (ho : ops[k]? = some o) (h : OpG P N w0 U0 ops o (SS L M) ⟨none, nw, rn, []⟩) (hr : RG P N w0 U0 ops (k + 1) (SS L (nw ++ M)) R) : RG P N w0 U0 ops k (SS L M) R :=
  rg_step ho h (fun m hm => by cases hm) (by rw [ap_ss]; exact hr)
variable {σ0 : AS} {sk : List Sk}
theorem dr_put {d : Nat} {v : AV} {rn : List Nat} (ho : ops[k]? = some o) (h : OpG P N w0 U0 ops o (SS L M) ⟨some (d, v), [], rn, []⟩) (hr : DR P N w0 U0 ops σ0 (k + 1) (sk ++ [⟨some d, [], rn, [], v.names⟩]) (SS ((d, v) :: L) M) R) : DR P N w0 U0 ops σ0 k sk (SS L M) R :=
  dr_step ho h (by rw [ap_ss]; exact hr)
theorem dr_skip (ho : ops[k]? = some o) (h : OpG P N w0 U0 ops o (SS L M) ⟨none, [], [], []⟩) (hr : DR P N w0 U0 ops σ0 (k + 1) (sk ++ [⟨none, [], [], [], []⟩]) (SS L M) R) : DR P N w0 U0 ops σ0 k sk (SS L M) R :=
  dr_step ho h (by rw [ap_ss]; exact hr)
theorem dr_nam {d : Nat} {v : AV} {nw : List (Nat × Ob)} {rn : List Nat} {m : Nat} (ho : ops[k]? = some o) (h : OpG P N w0 U0 ops o (SS L M) ⟨some (d, v), nw, rn, [m]⟩) (hr : DR P N w0 U0 ops σ0 (k + 1) (sk ++ [⟨some d, nw.map (·.1), rn, [m], v.names⟩]) (SS ((d, v) :: L) (nw ++ M)) R) : DR P N w0 U0 ops σ0 k sk (SS L M) R :=
  dr_step ho h (by rw [ap_ss]; exact hr)
theorem dr_sto {nw : List (Nat × Ob)} {rn : List Nat} (ho : ops[k]? = some o) (h : OpG P N w0 U0 ops o (SS L M) ⟨none, nw, rn, []⟩) (hr : DR P N w0 U0 ops σ0 (k + 1) (sk ++ [⟨none, nw.map (·.1), rn, [], []⟩]) (SS L (nw ++ M)) R) : DR P N w0 U0 ops σ0 k sk (SS L M) R :=
  dr_step ho h (by rw [ap_ss]; exact hr)
theorem a_rseq {id : Nat} {y : Code} {R : Exit → AS → Prop} {σ : AS} (h : RG P N w0 U0 ops 0 σ (A P N w0 U0 y R)) : A P N w0 U0 (.seq (.region id ops false) y) R σ := a_seq (a_region h)
theorem a_dseq {id : Nat} {y : Code} {R : Exit → AS → Prop} (hm : P.follows .mixedOrders = true) (h : DR P N w0 U0 ops (SS L M) 0 [] (SS L M) (A P N w0 U0 y R)) : A P N w0 U0 (.seq (.region id ops true) y) R (SS L M) := a_seq (a_draw hm h)
theorem a_condK {c : Operand} {x y : Code} {R : Exit → AS → Prop} {σ : AS} {b : Bool} (hc : σ.ev c = .d (.fl (.bool b))) (hb : b = true) (h1 : A P N w0 U0 x R σ) : A P N w0 U0 (.cond c x y) R σ := a_cond hc (fun _ => h1) (fun h => by rw [hb] at h; cases h)
theorem a_condF {c : Operand} {x y : Code} {R : Exit → AS → Prop} {σ : AS} {b : Bool} (hc : σ.ev c = .d (.fl (.bool b))) (hb : b = false) (h1 : A P N w0 U0 y R σ) : A P N w0 U0 (.cond c x y) R σ := a_cond hc (fun h => by rw [hb] at h; cases h) (fun _ => h1)
theorem ctr {f : FuncId} {fn : Func} {c : Code} {args : List DV} {r : RV} {n : Nat} {rs : Array ResultVar} {L : List (Nat × AV)} (hf : P.funcs[f]? = some fn) (hb : fn.body = some c) (hn : fn.ntmps = n) (hr : fn.results = rs) (hl : Nat.ble args.length n = true) (hL : args0 args 0 = L)
    (h : ∀ w0 U0, A P n w0 U0 c (retR P rs r) (SS L [])) : Ctr P f args r := by
  subst hn
  subst hr
  subst hL
  exact ctr_intro hf hb hl h
end
end Go.Proofs.Yteplcjhnmmpicaa.Av
