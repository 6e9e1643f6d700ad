/- Maps, and a string's iterator. Conditions: as each theorem names them. -/
import Derived.Test.YteplcjhnmmpicaaAv14
import Derived.MapKept
import Derived.ChangeMaps4
import Derived.Laws.RangeString
import Derived.Laws.RangeAny
set_option linter.unusedSimpArgs false
set_option linter.unusedVariables false
namespace Go.Proofs.Yteplcjhnmmpicaa.Av
open Go Go.RowKit
open Go.ChangeMaps (setBlock)
section
variable {P : Program} {N : Nat} {w0 : World} {U0 : Nat → Nat}
def keyTd : TypeDesc → Bool
  | .int _ | .string | .bool => true
  | _ => false
/-- the look-up in the entries -/
def mfind (td : TypeDesc) (k : Value) : List (Value × DV) → Option (Option DV)
  | [] => some none
  | x :: xs => match Instr.sameNow td k x.1 with
    | some true => some (some x.2)
    | some false => mfind td k xs
    | none => none
theorem find_ents {w : World} {U : Nat → Nat} {td : TypeDesc} {k : Value} : ∀ (es : List MapEntry) (xs : List (Value × DV)) (i : Nat), Ents w U es xs → ∀ r, mfind td k xs = some r →
    (r = none → Instr.findNow td k es i = some none) ∧ ∀ d, r = some d → ∃ j v, Instr.findNow td k es i = some (some (j, v)) ∧ Rd w U v d
  | [], [], i, _, r, hr => ⟨fun _ => rfl, fun d hd => by subst hd; simp [mfind] at hr⟩
  | [], x :: xs, i, h, r, hr => by have := h.1; simp at this
  | e :: es, [], i, h, r, hr => by have := h.1; simp at this
  | e :: es, x :: xs, i, h, r, hr => by
    obtain ⟨h1, h2⟩ := h.2 0 e x rfl rfl
    have ih := find_ents (td := td) (k := k) es xs (i + 1) ⟨by have := h.1; simpa using this, fun j e x h3 h4 => h.2 (j + 1) e x (by simpa using h3) (by simpa using h4)⟩ r
    simp only [mfind, Instr.findNow, h1] at hr ⊢
    cases hs : Instr.sameNow td k x.1 with
    | none => rw [hs] at hr; cases hr
    | some b =>
      rw [hs] at hr
      cases b with
      | true =>
        simp only at hr
        injection hr with hr
        subst hr
        exact ⟨fun h => (by cases h), fun d hd => by injection hd with hd; subst hd; exact ⟨i, e.val, rfl, h2⟩⟩
      | false => exact ih hr
theorem run_checkKey' {kt : TypeId} {td : TypeDesc} (h : P.underlying kt = some td) (hk : keyTd td = true) (k : Value) (w : World) (e : Bool) (n : Nat) : (Instr.checkKey e (n + 1) kt k).run P w = .ok () w := by
  cases td <;> first | (cases hk; done) | simp [Instr.checkKey, run_underlying h, Result.andThen]
theorem run_findKey' {kt : TypeId} {td : TypeDesc} (h : P.underlying kt = some td) {k : Value} {es : List MapEntry} {r : Option (Nat × Value)} (hr : Instr.findNow td k es 0 = some r) (w : World) : (Instr.findKey kt k es).run P w = .ok r w := by
  simp [Instr.findKey, run_underlying h, hr, Result.andThen]
def zDV : Value → DV
  | .agg vs => .ag (vs.toList.map .fl)
  | v => .fl v
def zOk : Value → Bool
  | .agg vs => vs.toList.all fun u => u.oneCell'
  | _ => true
theorem rd_zero {w : World} {U : Nat → Nat} {z : Value} (h : zOk z = true) : Rd w U z (zDV z) := by
  cases z with
  | agg vs =>
    refine .ag vs _ (by simp) (fun u hu => List.all_eq_true.1 h u hu) (fun j u x h1 h2 => ?_)
    rw [List.getElem?_map, h1] at h2
    injection h2 with h2
    subst h2
    exact .fl u
  | _ => exact .fl _
/-- a map that is read: as a datum, or of the call's own -/
inductive MapS (σ : AS) : AV → List (Value × DV) → List Nat → Prop
  | d (xs : List (Value × DV)) : MapS σ (.d (.mp xs)) xs []
  | ow {m : Nat} {xs : List (Value × DV)} (h : σ.n m = .mp xs) : MapS σ (.ow m) xs [m]
theorem MapS.get {σ σ' : AS} {a : Act} {w : World} {F : Fr} (hF : Fits w0 U0 σ' a w F) {av : AV} {xs : List (Value × DV)} {rn : List Nat} (h : MapS σ av xs rn) (hrn : ∀ m ∈ rn, σ'.n m = σ.n m) {u : Value} (hu : Rav w F av u) :
    ∃ b es c, u = .map (some b) ∧ w.heap[b]? = some (.map es c) ∧ Ents w F.U es.toList xs := by
  cases h with
  | d =>
    cases hu with
    | mp r es c _ hb hu hl hk hv => exact ⟨r, es, c, rfl, hb, by simpa using hl, fun i e x h1 h2 => ⟨hk i e x h1 h2, hv i e x h1 h2⟩⟩
  | @ow m _ h =>
    have := hF.n m
    rw [hrn m (by simp), h] at this
    obtain ⟨b, es, c, h1, _, _, h4, h5, _⟩ := this
    have hu' : u = F.γ m := hu
    exact ⟨b, es, c, hu'.trans h1, h4, h5⟩
/-- 'v, ok := m[k]' -/
theorem op_lookup {o : Oper} {σ : AS} {t : TypeId} {x y : Operand} (ho : o.op = .lookup t x y true) {kt et : TypeId} (ht : P.underlying t = some (.map kt et)) {td : TypeDesc} (hk : P.underlying kt = some td) (htd : keyTd td = true)
    {z : Value} {sz bb : Nat} (hi : TI P et z sz bb) (hz : zOk z = true) {av : AV} (hx : σ.ev x = av) {xs : List (Value × DV)} {rn : List Nat} (hm : MapS σ av xs rn) {k : Value} (hy : σ.ev y = .d (.fl k)) {r : Option DV} (hr : mfind td k xs = some r) (hd : dOk o N = true) :
    OpS P N w0 U0 o σ ⟨o.dst.map fun d => (d, .tu [r.getD (zDV z), .fl (.bool r.isSome)]), [], rn, []⟩ := by
  intro σ' hok a w hs K Q hK
  obtain ⟨F, hF⟩ := hs.f
  obtain ⟨b, es, c, h1, h2, h3⟩ := hm.get hF (fun q hq => hok.n q hq) (ev_get hok hF (x := x) (by simp [ho, Op.operands]) hx)
  have hky := ev_get hok hF (x := y) (by simp [ho, Op.operands]) hy
  have hkv : a.eval y = k := by generalize a.eval y = v at hky; cases hky; rfl
  obtain ⟨i, i1, i2, _, _⟩ := hi
  have hzv : (zeroValue et).run P w = .ok z w := by simp [zeroValue, typeInfo, i1, i2]
  obtain ⟨g1, g2⟩ := find_ents es.toList xs 0 h3 r hr
  have key : ∃ v, (execOp a.eval o).run P w = .ok (.value (.tuple #[v, .bool r.isSome])) w ∧ Rd w F.U v (r.getD (zDV z)) := by
    cases r with
    | none =>
      refine ⟨z, ?_, rd_zero hz⟩
      simp [execOp, ho, Instr.lookup, h1, hkv, run_underlying ht, MapKept.run_getObj_map h2, run_checkKey' hk htd, run_findKey' hk (g1 rfl), hzv, Result.andThen]
    | some d =>
      obtain ⟨j, v, e1, e2⟩ := g2 d rfl
      refine ⟨v, ?_, e2⟩
      simp [execOp, ho, Instr.lookup, h1, hkv, run_underlying ht, MapKept.run_getObj_map h2, run_checkKey' hk htd, run_findKey' hk e1, Result.andThen]
  obtain ⟨v, hrun, hv⟩ := key
  unfold Oper.wp
  rw [hrun]
  have hfit := hF.put (U' := F.U) (w' := w) hs.b.size ⟨fun _ _ => rfl, fun _ _ => rfl⟩ hd hs.s (av := .tu [r.getD (zDV z), .fl (.bool r.isSome)]) (v := .tuple #[v, .bool r.isSome]) ⟨_, rfl, Rds.cons hv (Rds.cons (.fl _) Rds.nil)⟩ rn []
  exact hK _ _ ⟨by rw [put_defers]; exact hs.d, by rw [put_size]; exact hs.s, hs.b, _, hfit⟩
/-! ### the call's own object is written -/
theorem setBlock_same {w : World} {b : Nat} (o : Obj) (h : b < w.heap.size) : (setBlock w b o).heap[b]? = some o := by
  simp [setBlock, Array.getElem?_setIfInBounds, h]
theorem setBlock_other {w : World} {b k : Nat} (o : Obj) (h : k ≠ b) : (setBlock w b o).heap[k]? = w.heap[k]? := by
  simp [setBlock, Array.getElem?_setIfInBounds, Ne.symm h]
theorem below_setBlock {B : Nat} {a w : World} (h : Below B a w) {b : Nat} (hb : B ≤ b) (o : Obj) : Below B a (setBlock w b o) :=
  ⟨h.os, h.tape, h.output, by simpa [setBlock] using h.size, fun k hk => (setBlock_other o (by omega)).trans (h.block k hk)⟩
theorem ext_setBlock {w : World} {U : Nat → Nat} {b : Nat} (o : Obj) (hU : U b = 0) : Ext w U (setBlock w b o) U :=
  ⟨fun b' o' u hc ho' => by
    have hne : b' ≠ b := fun e => by rw [e, hU] at ho'; omega
    exact ⟨(World.cell?_of_block (setBlock_other o hne)).trans hc, ho'⟩, fun r es c hr hu => by
    have hne : r ≠ b := fun e => by rw [e, hU] at hu; omega
    exact ⟨setBlock_other o hne, rfl⟩⟩
theorem nw_one {m k : Nat} {o : Ob} : nwGet [(m, o)] k = if k = m then some o else none := by
  show (bif Nat.beq m k then some o else none) = _
  by_cases h : k = m
  · subst h; rw [Nat.beq_refl, if_pos rfl]; rfl
  · rw [nbeq (Ne.symm h), if_neg h]; rfl
theorem Fits.setobj {σ : AS} {a a' : Act} {w : World} {F : Fr} (h : Fits w0 U0 σ a w F) {m b : Nat} (hl : (σ.n m).live = true) (hS : ∀ b', F.S m b' ↔ b' = b) (hU : F.U b = 0) {obj : Obj} {ob : Ob} (hob : Rob w0.heap.size (setBlock w b obj) F m ob) {tw : Option (Nat × AV)}
    (hta : ∀ t, a'.tmps.getD t undef = (match tw with | some (d, _) => if d = t then a'.tmps.getD t undef else a.tmps.getD t undef | none => a.tmps.getD t undef)) (htv : ∀ d v, tw = some (d, v) → Rav (setBlock w b obj) F v (a'.tmps.getD d undef)) (rn : List Nat) :
    Fits w0 U0 ((⟨tw, [(m, ob)], rn, []⟩ : Eff).ap σ) a' (setBlock w b obj) F :=
  h.big (F' := F) (tw := tw) (nw := [(m, ob)]) (ext_setBlock obj hU) (fun _ _ => rfl) (fun k _ => ⟨rfl, rfl, fun _ => Iff.rfl⟩) (fun k _ => .inl ⟨rfl, rfl⟩)
    (fun k hkl hk x hx hlt => ⟨setBlock_other obj (fun e => by
      subst e
      have := h.i k m x hkl hl hx ((hS x).2 rfl)
      rw [nw_one, if_pos this] at hk; cases hk), rfl⟩)
    (fun k o hk => by
      rw [nw_one] at hk
      by_cases e : k = m
      · rw [if_pos e] at hk; injection hk with hk; subst hk e; exact hob
      · rw [if_neg e] at hk; cases hk)
    (fun k o k' x hk hol hk' hkl' hx hx' => by
      rw [nw_one] at hk hk'
      by_cases e : k = m
      · subst e
        have := h.i k k' x hl hkl' hx hx'
        rw [if_pos this.symm] at hk'; cases hk'
      · rw [if_neg e] at hk; cases hk)
    (fun k o k' o' x hk _ hk' _ _ _ => by
      rw [nw_one] at hk hk'
      by_cases e : k = m
      · by_cases e' : k' = m
        · rw [e, e']
        · rw [if_neg e'] at hk'; cases hk'
      · rw [if_neg e] at hk; cases hk)
    hta htv rn []
/-- a block is laid that the call owns -/
theorem Fits.newobj {σ : AS} {a : Act} {w : World} {F : Fr} (h : Fits w0 U0 σ a w F) (hs : w0.heap.size ≤ w.heap.size) {m : Nat} {ob : Ob} (hf : fresh σ m) {γv : Value} (obj : Obj) {o : Oper} (hd : dOk o N = true) (hN : a.tmps.size = N)
    (hob : ∀ F' : Fr, F'.γ m = γv → F'.U w.heap.size = 0 → (∀ b, F'.S m b ↔ b = w.heap.size) → Rob w0.heap.size (w.alloc obj) F' m ob) :
    ∃ F', Fits w0 U0 ((⟨o.dst.map fun d => (d, .ow m), [(m, ob)], [], [m]⟩ : Eff).ap σ) (a.put o.dst γv) (w.alloc obj) F' := by
  obtain ⟨U', hU'⟩ : ∃ U' : Nat → Nat, U' = fun b => if b = w.heap.size then 0 else F.U b := ⟨_, rfl⟩
  have hU1 : U' w.heap.size = 0 := by rw [hU']; simp
  have hU2 : ∀ b, b < w.heap.size → U' b = F.U b := fun b hb => by rw [hU']; simp; intro h; omega
  have hE : Ext w F.U (w.alloc obj) U' := Up.ext ⟨fun b hlt => Below.heap_alloc w _ b hlt, hU2⟩
  exact ⟨_, h.name (kill := none) (bo := some w.heap.size) (γv := γv) (U' := U') (v := γv) (av := .ow m) hf hE (fun b hb => hU2 b (by omega)) (fun k b hl _ hb hlt => ⟨Below.heap_alloc w _ b hlt, hU2 b hlt⟩)
      (fun k b hl _ hb e => by have := live_lt h hl hb; injection e with e; omega)
      (hob _ (if_pos rfl) hU1 (fun b => by show (if m = m then some w.heap.size = some b else _) ↔ _; rw [if_pos rfl]; exact ⟨fun h => by injection h with h; exact h.symm, fun h => by rw [h]⟩)) hd hN (by show γv = (if m = m then γv else _); rw [if_pos rfl]) []⟩
theorem op_makeMap {o : Oper} {σ : AS} {t : TypeId} (m : Nat) (ho : o.op = .makeMap t none) (hd : dOk o N = true) : OpS P N w0 U0 o σ ⟨o.dst.map fun d => (d, .ow m), [(m, .mp [])], [], [m]⟩ := by
  intro σ' hok a w hs K Q hK
  obtain ⟨F, hF⟩ := hs.f
  obtain ⟨F', hfit⟩ := hF.newobj hs.b.size (ob := .mp []) (hok.f m (by simp)) (γv := .map (some w.heap.size)) (.map #[] 0) hd hs.s (fun F' h1 h2 h3 => ⟨w.heap.size, #[], 0, h1, hs.b.size, h2, Go.heap_alloc_new w _, ⟨rfl, fun i e x h => by simp at h⟩, h3⟩)
  have hrun : (execOp a.eval o).run P w = .ok (.value (.map (some w.heap.size))) (w.alloc (.map #[] 0)) := by
    simp [execOp, ho, show (Instr.makeMap t none).run P w = .ok (.map (some w.heap.size)) (w.alloc (.map #[] 0)) from rfl, Result.andThen]
  unfold Oper.wp
  rw [hrun]
  exact hK _ _ ⟨by rw [put_defers]; exact hs.d, by rw [put_size]; exact hs.s, hs.b.alloc hs.b.size _, _, hfit⟩
theorem op_range {o : Oper} {σ : AS} {t : TypeId} {x : Operand} (m : Nat) (ho : o.op = .range t x) (hu : P.underlying t = some .string) {s : ByteArray} (hx : σ.ev x = .d (.fl (.string s))) (hd : dOk o N = true) : OpS P N w0 U0 o σ ⟨o.dst.map fun d => (d, .ow m), [(m, .it s 0)], [], [m]⟩ := by
  intro σ' hok a w hs K Q hK
  obtain ⟨F, hF⟩ := hs.f
  have hvx := ev_get hok hF (x := x) (by simp [ho, Op.operands]) hx
  have hv : a.eval x = .string s := by generalize a.eval x = v at hvx; cases hvx; rfl
  obtain ⟨F', hfit⟩ := hF.newobj hs.b.size (ob := .it s 0) (hok.f m (by simp)) (γv := .pointer (some ⟨w.heap.size, 0, none⟩)) (.stringIter s 0) hd hs.s (fun F' h1 h2 h3 => ⟨w.heap.size, h1, hs.b.size, h2, Go.heap_alloc_new w _, h3⟩)
  have hrun : (execOp a.eval o).run P w = .ok (.value (.pointer (some ⟨w.heap.size, 0, none⟩))) (w.alloc (.stringIter s 0)) := by
    simp [execOp, ho, hv, run_range_string w t s hu, World.iter, Result.andThen]
  unfold Oper.wp
  rw [hrun]
  exact hK _ _ ⟨by rw [put_defers]; exact hs.d, by rw [put_size]; exact hs.s, hs.b.alloc hs.b.size _, _, hfit⟩
theorem it_get {σ' : AS} {a : Act} {w : World} {F : Fr} (hF : Fits w0 U0 σ' a w F) {m : Nat} {s : ByteArray} {p : Nat} (h : σ'.n m = .it s p) : ∃ b, F.γ m = .pointer (some ⟨b, 0, none⟩) ∧ w0.heap.size ≤ b ∧ F.U b = 0 ∧ w.heap[b]? = some (.stringIter s p) ∧ ∀ b', F.S m b' ↔ b' = b := by
  have := hF.n m
  rw [h] at this
  exact this
theorem op_next_yes {o : Oper} {σ : AS} {x : Operand} (ho : o.op = .next x true) {m p : Nat} {s : ByteArray} (hx : σ.ev x = .ow m) (hm : σ.n m = .it s p) (hp : p < s.size) (hd : dOk o N = true) :
    OpS P N w0 U0 o σ ⟨o.dst.map fun d => (d, .tu [.fl (.bool true), .fl (.int .i64 p), .fl (.int .i32 (Utf8.decode s p).1)]), [(m, .it s (p + (Utf8.decode s p).2))], [m], []⟩ := by
  intro σ' hok a w hs K Q hK
  obtain ⟨F, hF⟩ := hs.f
  have hv : a.eval x = F.γ m := ev_get hok hF (x := x) (by simp [ho, Op.operands]) hx
  have hm' : σ'.n m = .it s p := by rw [hok.n m (by simp)]; exact hm
  obtain ⟨b, h1, h2, h3, h4, h5⟩ := it_get hF hm'
  have hlt : b < w.heap.size := (Array.getElem?_eq_some_iff.1 h4).1
  have hset : ∀ o', (setObj b o').run P w = .ok () (setBlock w b o') := fun o' => by simp [setObj, Sem.run, h4, setBlock]
  have hget : (getObj b).run P w = .ok (.stringIter s p) w := by simp [getObj, Sem.run, h4]
  have hrun : (execOp a.eval o).run P w = .ok (.value (.tuple #[.bool true, .int .i64 p, .int .i32 (Utf8.decode s p).1])) (setBlock w b (.stringIter s (p + (Utf8.decode s p).2))) := by
    simp [execOp, ho, hv, h1, Instr.next, hget, hp, hset, Result.andThen, goInt]
  have hput := hta_put hd hs.s (.tu [.fl (.bool true), .fl (.int .i64 p), .fl (.int .i32 (Utf8.decode s p).1)]) (.tuple #[.bool true, .int .i64 p, .int .i32 (Utf8.decode s p).1])
  have hfit := hF.setobj (a' := a.put o.dst (.tuple #[.bool true, .int .i64 p, .int .i32 (Utf8.decode s p).1])) (m := m) (b := b) (by rw [hm']; rfl) h5 h3 (obj := .stringIter s (p + (Utf8.decode s p).2)) (ob := .it s (p + (Utf8.decode s p).2)) ⟨b, h1, h2, h3, setBlock_same _ hlt, h5⟩
    (tw := o.dst.map fun d => (d, .tu [.fl (.bool true), .fl (.int .i64 p), .fl (.int .i32 (Utf8.decode s p).1)])) hput.1 (fun d v hdv => by
      obtain ⟨e1, e2⟩ := hput.2 d v hdv
      subst e1
      rw [e2]
      exact ⟨_, rfl, Rds.cons (.fl _) (Rds.cons (.fl _) (Rds.cons (.fl _) Rds.nil))⟩) [m]
  unfold Oper.wp
  rw [hrun]
  exact hK _ _ ⟨by rw [put_defers]; exact hs.d, by rw [put_size]; exact hs.s, below_setBlock hs.b h2 _, _, hfit⟩
theorem op_next_no {o : Oper} {σ : AS} {x : Operand} (ho : o.op = .next x true) {m p : Nat} {s : ByteArray} (hx : σ.ev x = .ow m) (hm : σ.n m = .it s p) (hp : ¬ p < s.size) (hd : dOk o N = true) :
    OpS P N w0 U0 o σ ⟨o.dst.map fun d => (d, .tu [.fl (.bool false)]), [], [m], []⟩ := by
  intro σ' hok a w hs K Q hK
  obtain ⟨F, hF⟩ := hs.f
  have hv : a.eval x = F.γ m := ev_get hok hF (x := x) (by simp [ho, Op.operands]) hx
  have hm' : σ'.n m = .it s p := by rw [hok.n m (by simp)]; exact hm
  obtain ⟨b, h1, h2, h3, h4, h5⟩ := it_get hF hm'
  have hget : (getObj b).run P w = .ok (.stringIter s p) w := by simp [getObj, Sem.run, h4]
  have hrun : (execOp a.eval o).run P w = .ok (.value (.tuple #[.bool false])) w := by
    simp [execOp, ho, hv, h1, Instr.next, hget, hp, Result.andThen]
  have hfit := hF.put (U' := F.U) (w' := w) hs.b.size ⟨fun _ _ => rfl, fun _ _ => rfl⟩ hd hs.s (av := .tu [.fl (.bool false)]) (v := .tuple #[.bool false]) ⟨_, rfl, Rds.cons (.fl _) Rds.nil⟩ [m] []
  unfold Oper.wp
  rw [hrun]
  exact hK _ _ ⟨by rw [put_defers]; exact hs.d, by rw [put_size]; exact hs.s, hs.b, _, hfit⟩
theorem beqB {a b : ByteArray} (h : (a == b) = true) : a = b := by
  cases a; cases b
  congr 1
  exact eq_of_beq h
theorem sameNow_eq {td : TypeDesc} {k k' : Value} (h : Instr.sameNow td k k' = some true) : k = k' := by
  unfold Instr.sameNow at h
  split at h <;> first | (cases h; done) | skip
  · split at h
    · rename_i e; subst e; simp at h; subst h; rfl
    · cases h
  · injection h with h
    rw [beqB h]
  · simp at h; subst h; rfl
/-- 'm[k] = v' at a key that is not there -/
theorem op_mapPush {o : Oper} {σ : AS} {t : TypeId} {x y z : Operand} (ho : o.op = .mapUpdate t x y z) (hdn : o.dst = none) {kt et : TypeId} (ht : P.underlying t = some (.map kt et)) {td : TypeDesc} (hk : P.underlying kt = some td) (htd : keyTd td = true)
    {m : Nat} {xs : List (Value × DV)} (hx : σ.ev x = .ow m) (hm : σ.n m = .mp xs) {k : Value} (hy : σ.ev y = .d (.fl k)) (hr : mfind td k xs = some none) {d : DV} (hz : σ.ev z = .d d) :
    OpS P N w0 U0 o σ ⟨none, [(m, .mp (xs ++ [(k, d)]))], [m], []⟩ := by
  intro σ' hok a w hs K Q hK
  obtain ⟨F, hF⟩ := hs.f
  have hv : a.eval x = F.γ m := ev_get hok hF (x := x) (by simp [ho, Op.operands]) hx
  have hvy := ev_get hok hF (x := y) (by simp [ho, Op.operands]) hy
  have hkv : a.eval y = k := by generalize a.eval y = v at hvy; cases hvy; rfl
  have hvz : Rd w F.U (a.eval z) d := ev_get hok hF (x := z) (by simp [ho, Op.operands]) hz
  have hm' : σ'.n m = .mp xs := by rw [hok.n m (by simp)]; exact hm
  have hn := hF.n m
  rw [hm'] at hn
  obtain ⟨b, es, c, h1, h2, h3, h4, h5, h6⟩ := hn
  have hlt : b < w.heap.size := (Array.getElem?_eq_some_iff.1 h4).1
  obtain ⟨g1, _⟩ := find_ents es.toList xs 0 h5 none hr
  have hrun : (execOp a.eval o).run P w = .ok .skip (setBlock w b (.map (es.push ⟨k, a.eval z, c⟩) (c + 1))) := by
    simp [execOp, ho, hv, h1, hkv, Instr.mapUpdate, run_underlying ht, MapKept.run_getObj_map h4, run_checkKey' hk htd, run_findKey' hk (g1 rfl), MapKept.run_setObj_map _ h4, Result.andThen, setBlock]
  have hE := ext_setBlock (w := w) (Obj.map (es.push ⟨k, a.eval z, c⟩) (c + 1)) h3
  have hents : Ents (setBlock w b (.map (es.push ⟨k, a.eval z, c⟩) (c + 1))) F.U (es.push ⟨k, a.eval z, c⟩).toList (xs ++ [(k, d)]) := by
    have hl := h5.1
    refine ⟨by simp [← hl], fun i e u he hu => ?_⟩
    rw [Array.toList_push] at he
    rcases Nat.lt_or_ge i xs.length with hi | hi
    · rw [List.getElem?_append_left (by omega)] at he
      rw [List.getElem?_append_left hi] at hu
      exact ⟨(h5.2 i e u he hu).1, (h5.2 i e u he hu).2.ext hE⟩
    · rw [List.getElem?_append_right (by omega)] at he
      rw [List.getElem?_append_right hi] at hu
      have hi0 : i - xs.length = 0 := by
        have := (List.getElem?_eq_some_iff.1 hu).1
        simp at this; omega
      rw [hi0] at hu
      rw [show i - es.toList.length = 0 by omega] at he
      simp at he hu
      subst he hu
      exact ⟨rfl, hvz.ext hE⟩
  have hfit := hF.setobj (a' := a) (m := m) (b := b) (by rw [hm']; rfl) h6 h3 (obj := .map (es.push ⟨k, a.eval z, c⟩) (c + 1)) (ob := .mp (xs ++ [(k, d)])) ⟨b, _, _, h1, h2, h3, setBlock_same _ hlt, hents, h6⟩
    (tw := none) (fun _ => rfl) (fun _ _ h => by cases h) [m]
  unfold Oper.wp
  rw [hrun]
  have : a.put o.dst undef = a := by rw [hdn]; rfl
  unfold Oper.upon
  simp only [this]
  exact hK _ _ ⟨hs.d, hs.s, below_setBlock hs.b h2 _, _, hfit⟩
end
end Go.Proofs.Yteplcjhnmmpicaa.Av
