/- Rules for states of data. Conditions: as each theorem names them. -/
import Derived.Test.YtobgdemhadlgnaaAvD
import Derived.Shelf.GgSortFunc.InsertionK
import Derived.Sort.Statements
set_option linter.unusedSimpArgs false
set_option linter.unusedVariables false
namespace Go.Proofs.Ytobgdemhadlgnaa.Av
open Go Go.RowKit
/-- f(s, g) sorts a row of flat structures in place by the closure g: what the shelf's contract gives, in the words of blocks -/
def SortOk (P : Program) (f g : FuncId) {α : Type} (z : Nat) (enc : α → List Value) (lt : α → α → Bool) : Prop :=
  (∀ (b c : Nat) (l : List α) (w : World) (cur : Array Value) (e : TypeId), w.heap[b]? = some (.cells cur e (0, 0)) → l.length ≤ c → c ≤ maxLen → l.length < 4611686018427387904 → cur.size = c * z → cur.toList.take (l.length * z) = (l.map enc).flatten →
    Calls P f #[.slice (some ⟨b, 0, none⟩) l.length c, .func (.func g) #[] #[]] w fun ex w' => ex = .returned (.tuple #[]) ∧ ∃ (l' : List α) (cur' : Array Value), l'.Perm l ∧ l'.Pairwise (fun x y => lt y x = false) ∧
      w'.heap[b]? = some (.cells cur' e (0, 0)) ∧ cur'.size = cur.size ∧ cur'.toList.take (l.length * z) = (l'.map enc).flatten ∧ (∀ k, k < w.heap.size → k ≠ b → w'.heap[k]? = w.heap[k]?) ∧ w.heap.size ≤ w'.heap.size ∧ w'.os = w.os ∧ w'.tape = w.tape ∧ w'.output = w.output) ∧
  ∀ w : World, Calls P f #[.slice none 0 0, .func (.func g) #[] #[]] w fun ex w' => ex = .returned (.tuple #[]) ∧ w' = w
theorem tDf_flat {α : Type} {f : α → List DV} {enc : α → List Value} (hf : ∀ x, f x = (enc x).map DV.fl) : ∀ l : List α, (tD f l).flatten = ((l.map enc).flatten.map DV.fl).map OC.dv
  | [] => rfl
  | a :: l => by
    have ih := tDf_flat hf l
    show (f a).map OC.dv ++ (tD f l).flatten = _
    rw [ih, hf a]
    simp
theorem rc_flat {w : World} {U : Nat → Nat} {xs ys : List Value} (h : Rc w U xs (ys.map DV.fl)) : xs = ys := by
  apply List.ext_getElem?
  intro i
  have hl := h.1.1
  simp only [List.length_map] at hl
  rcases Nat.lt_or_ge i xs.length with hi | hi
  · have h1 := h.1.2 i _ (.fl (ys[i]'(by omega))) (List.getElem?_eq_getElem hi) (by simp [show i < ys.length by omega])
    rw [List.getElem?_eq_getElem hi, List.getElem?_eq_getElem (show i < ys.length by omega)]
    exact congrArg some (rd_fl h1)
  · rw [List.getElem?_eq_none hi, List.getElem?_eq_none (by omega)]
theorem rc_of_flat {w : World} {U : Nat → Nat} {ys : List Value} (h : ∀ v ∈ ys, v.oneCell' = true) : Rc w U ys (ys.map DV.fl) := by
  refine ⟨⟨by simp, fun j u d hu hd => ?_⟩, h⟩
  simp only [List.getElem?_map, Option.map_eq_some_iff] at hd
  obtain ⟨z, hz, rfl⟩ := hd
  rw [hu] at hz; cases hz
  exact .fl _
section
variable {P : Program} {N : Nat} {w0 : World} {U0 : Nat → Nat}
theorem rg_sort {ops : Array Oper} {o : Oper} {k : Nat} {L : List (Nat × AV)} {M : List (Nat × Ob)} {R : AS → Prop} {f g : FuncId} {s cf : Operand} {ats : Array TypeId} {α : Type} {z : Nat} {fα : α → List DV} {enc : α → List Value} {lt : α → α → Bool} {l : List α} {m0 : Nat} {e : TypeId}
    (ho : ops[k]? = some o) (hg : o.guard = none) (hop : o.op = .call { callee := .value (.func f), args := #[s, cf], argTypes := ats }) (hdst : o.dst = none) {fn : Func} (hf : P.funcs[f]? = some fn) (hn : (fn.name == "runtime.NumGoroutine") = false) (hb : fn.body.isNone = false)
    (hs : (SS L M).ev s = .ow m0) (hm : ln M m0 = .tr e z (tD fα l)) (hcf : (SS L M).ev cf = .d (.fn g [])) (hfl : ∀ x, fα x = (enc x).map DV.fl) (hz : ∀ x, (enc x).length = z) (hone : ∀ x, ∀ v ∈ enc x, v.oneCell' = true) (hok : SortOk P f g z enc lt) (h62 : l.length < 4611686018427387904)
    (h : ∀ l' : List α, l'.Perm l → l'.Pairwise (fun x y => lt y x = false) → RG P N w0 U0 ops (k + 1) (SS L ((m0, .tr e z (tD fα l')) :: M)) R) : RG P N w0 U0 ops k (SS L M) R := by
  refine ⟨fun a w hst Q hQ => ?_⟩
  have hlt : k < ops.size := (Array.getElem?_eq_some_iff.1 ho).1
  have e1 : ((List.range (ops.size - k)).map (· + k)) = k :: ((List.range (ops.size - (k + 1))).map (· + (k + 1))) := by
    rw [show ops.size - k = (ops.size - (k + 1)) + 1 by omega, List.range_succ_eq_map]
    simp only [List.map_cons, Nat.zero_add, List.map_map, List.cons.injEq, true_and]
    apply List.map_congr_left
    intro x _
    show x + 1 + k = x + (k + 1)
    omega
  rw [e1, wpOps_cons]
  unfold wpOp
  rw [ho]
  simp only
  have hw : Region.wanted o (yielded ops a.tmps) = true := by simp [Region.wanted, hg]
  rw [if_pos hw]
  refine .inl ?_
  obtain ⟨F, hF⟩ := hst.f
  have h1 : a.eval s = F.γ m0 := by have := hF.ev s; rw [hs] at this; exact this
  have h2 : Rd w F.U (a.eval cf) (.fn g []) := by have := hF.ev cf; rw [hcf] at this; exact this
  have h2' : a.eval cf = .func (.func g) #[] #[] := by
    generalize a.eval cf = v at h2
    cases h2 with
    | fn f vs cs hl hc =>
      have : vs = #[] := Array.eq_empty_of_size_eq_zero (by simpa using hl)
      rw [this]
  have hnm : (SS L M).n m0 = .tr e z (tD fα l) := hm
  have hlive : ((SS L M).n m0).live = true := by rw [hnm]; rfl
  have hob := hF.n m0
  rw [hnm] at hob
  obtain ⟨xs, T, g1, g2, g3, g4, g5⟩ := hob
  have hlen : (tD fα l).length = l.length := by simp [tD]
  rw [hlen] at g1
  rw [tDf_flat hfl] at g2
  obtain ⟨hrc, hno⟩ := Tcs.noDv g2
  have hxs : xs = (l.map enc).flatten := rc_flat hrc
  obtain ⟨g1a, g1b⟩ := g1
  have hex : ∀ v, F.γ m0 = v → (execOp a.eval o).run P w = .ok (.enter f #[v, .func (.func g) #[] #[]]) w := by
    intro v hv
    unfold execOp
    simp only [hop, resolve, Act.eval, Deferred.ofValue, invoke, Sem.run_bind, Sem.run_pure, Result.andThen_ok]
    have e1' : (#[] ++ Array.map a.eval #[s, cf] ++ #[] : Array Value) = #[v, .func (.func g) #[] #[]] := by
      apply Array.ext'
      simp [h1, h2', hv]
    rw [e1']
    exact run_call hf hn hb _ w
  rcases g1b with ⟨hv, h0⟩ | ⟨b, cap, cur, q1, q2, q3, q4, q5, q6, q7⟩
  · have hl0 : l = [] := List.length_eq_zero_iff.1 h0
    unfold Oper.wp
    rw [hex _ hv, Oper.upon_enter]
    refine Calls.mono (hok.2 w) ?_
    rintro ex w' ⟨rfl, rfl⟩
    have hsame : SS L ((m0, .tr e z (tD fα l)) :: M) = SS L M := by
      unfold SS
      congr 1
      funext q
      show (bif Nat.beq m0 q then _ else ln M q) = ln M q
      cases hq : Nat.beq m0 q with
      | false => rfl
      | true => rw [← Nat.eq_of_beq_eq_true hq, hm]; rfl
    have hr := h l (List.Perm.refl _) (by rw [hl0]; exact List.Pairwise.nil)
    rw [hsame] at hr
    rw [hdst]
    exact hr.go a w' hst Q hQ
  · have hcall := hok.1 b cap l w cur e q3 q4 q5 h62 q6 (q7.trans hxs)
    unfold Oper.wp
    rw [hex _ q1, Oper.upon_enter]
    refine Calls.mono hcall ?_
    rintro ex w' ⟨rfl, l', cur', p1, p2, c1, c2, c3, c4, c5, c6, c7, c8⟩
    have hown : (F.γ m0).ownBlock = some b := by rw [q1]; rfl
    obtain ⟨gU, gT⟩ := g4 b hown
    have hll : l'.length = l.length := p1.length_eq
    have hE : Ext w F.U w' F.U := by
      refine ⟨fun b' off u hcl ho' => ?_, fun r es c hr hu => ?_⟩
      · have hne : b' ≠ b := fun h => by rw [h, gU] at ho'; omega
        have hlt' := World.block_lt_of_cell? w _ hcl
        exact ⟨(World.cell?_of_block (c4 b' hlt' hne)).trans hcl, ho'⟩
      · have hne : r ≠ b := fun h => by rw [h, gU] at hu; omega
        exact ⟨c4 r (Array.getElem?_eq_some_iff.1 hr).1 hne, rfl⟩
    have hlen' : (tD fα l').length = l.length := by simp [tD, hll]
    have hrow : w'.ownsRow w0.heap.size e z (F.γ m0) (tD fα l').length (l'.map enc).flatten := by
      rw [hlen', q1]
      refine ⟨?_, .inr ⟨b, cap, cur', rfl, q2, c1, q4, q5, by rw [c2, q6], c3⟩⟩
      have hfl1 : ∀ l : List α, (l.map enc).flatten.length = l.length * z := by
        intro l
        induction l with
        | nil => simp
        | cons x l ih => simp only [List.map_cons, List.flatten_cons, List.length_append, hz, ih, List.length_cons]; rw [Nat.add_mul]; omega
      rw [hfl1, hll]
    have hmem1 : ∀ v ∈ (l'.map enc).flatten, v.oneCell' = true := by
      intro v hv
      obtain ⟨r, hr, hvr⟩ := List.mem_flatten.1 hv
      obtain ⟨x, _, rfl⟩ := List.mem_map.1 hr
      exact hone x v hvr
    have key : ∀ q (o' : Ob), nwGet [(m0, Ob.tr e z (tD fα l'))] q = some o' → q = m0 ∧ o' = .tr e z (tD fα l') := by
      intro q o' hq
      unfold nwGet at hq
      cases hb' : Nat.beq m0 q with
      | true => rw [hb'] at hq; exact ⟨(Nat.eq_of_beq_eq_true hb').symm, (Option.some.inj hq).symm⟩
      | false => rw [hb'] at hq; cases hq
    have keyn : ∀ q, nwGet [(m0, Ob.tr e z (tD fα l'))] q = none → q ≠ m0 := by
      intro q hq hqm
      subst hqm
      unfold nwGet at hq
      rw [Nat.beq_refl] at hq; cases hq
    have hfit := hF.big (F' := F) (w' := w') (a' := a) (tw := none) (nw := [(m0, .tr e z (tD fα l'))]) hE (fun _ _ => rfl) (fun q hq => ⟨rfl, rfl, fun _ => Iff.rfl⟩) (fun q hq => .inl ⟨rfl, rfl⟩)
      (fun q hl hq b' hb' hlt' => by
        have hne : b' ≠ b := fun hh => by
          subst hh
          exact keyn q hq (hF.i q m0 b' hl hlive hb' ((g5 b').2 (.inl hown)))
        exact ⟨c4 b' hlt' hne, rfl⟩)
      (fun q o' hq => by
        obtain ⟨rfl, rfl⟩ := key q o' hq
        refine ⟨(l'.map enc).flatten, fun _ _ => False, hrow, by rw [tDf_flat hfl]; exact Tcs.ofRc (rc_of_flat hmem1), fun r hr => ?_, fun b' hb' => ⟨(g4 b' hb').1, fun _ h => h⟩, fun b' => ?_⟩
        · obtain ⟨y, hy, rfl⟩ := List.mem_map.1 hr
          obtain ⟨x, _, rfl⟩ := List.mem_map.1 hy
          rw [List.length_map, hfl, List.length_map, hz]
        · rw [g5 b']
          constructor
          · rintro (h | ⟨i, h⟩)
            · exact .inl h
            · exact absurd h (hno i b')
          · rintro (h | ⟨i, h⟩)
            · exact .inl h
            · exact h.elim)
      (fun q o' q' b' hq hl hq' hl' hb' hb2 => by
        obtain ⟨rfl, rfl⟩ := key q o' hq
        exact keyn q' hq' (hF.i q' q b' hl' hlive hb2 hb'))
      (fun q o' q' o2 b' hq hl hq' hl' hb' hb2 => by
        obtain ⟨rfl, _⟩ := key q o' hq
        obtain ⟨rfl, _⟩ := key q' o2 hq'
        rfl)
      (fun t => rfl) (fun d v h => by cases h) [] []
    rw [ap_ss] at hfit
    have hbel : Below w0.heap.size w0 w' := by
      have hb0 := hst.b
      exact ⟨c6.trans hb0.os, c7.trans hb0.tape, c8.trans hb0.output, Nat.le_trans hb0.size c5, fun i hi => (c4 i (by have := hb0.size; omega) (by omega)).trans (hb0.block i hi)⟩
    rw [hdst]
    exact (h l' p1 p2).go a w' ⟨hst.d, hst.s, hbel, F, hfit⟩ Q hQ
end
end Go.Proofs.Ytobgdemhadlgnaa.Av

namespace Go.Proofs.Ytobgdemhadlgnaa.Av
open Go Go.RowKit Go.Sort
theorem flatK_list {α : Type} [Inhabited α] {enc : α → List Value} {z : Nat} (hz : ∀ x, (enc x).length = z) (d : Array α) : (flatK enc z d).toList = (d.toList.map enc).flatten := by
  have hrz : ∀ r ∈ d.toList.map enc, r.length = z := fun r hr => by obtain ⟨x, _, rfl⟩ := List.mem_map.1 hr; exact hz x
  have hlen : ((d.toList.map enc).flatten).length = d.size * z := by rw [flat_len hrz]; simp
  apply List.ext_getElem?
  intro t
  rcases Nat.lt_or_ge t (d.size * z) with ht | ht
  · have z0 : 0 < z := by
      rcases Nat.eq_zero_or_pos z with h | h
      · subst h; simp at ht
      · exact h
    have hi : t / z < d.size := Nat.div_lt_of_lt_mul (by rw [Nat.mul_comm]; exact ht)
    have hj : t % z < z := Nat.mod_lt _ z0
    have hjl : t % z < (enc d[t / z]).length := by rw [hz]; exact hj
    have h1 := flat_get hrz (i := t / z) (j := t % z) (r := enc d[t / z]) (x := (enc d[t / z])[t % z]) (by simp [hi]) (List.getElem?_eq_getElem hjl)
    have e : t / z * z + t % z = t := Nat.div_add_mod' t z
    rw [e] at h1
    rw [h1.1]
    have h2 := get_flatK enc z d t ht
    have hs : t < (flatK enc z d).size := by simpa using ht
    rw [Array.getElem?_toList, Array.getElem?_eq_getElem hs, ← getElem!_pos (flatK enc z d) t hs, h2]
    congr 1
    rw [getElem!_pos d (t / z) hi, getElem!_pos (enc d[t / z]) (t % z) hjl]
  · rw [List.getElem?_eq_none (by simpa using ht), List.getElem?_eq_none (by rw [hlen]; exact ht)]
theorem take_putCells_id {F cur : Array Value} (h : F.size ≤ cur.size) : (putCells id 0 F cur).toList.take F.size = F.toList := by
  apply List.ext_getElem?
  intro t
  rcases Nat.lt_or_ge t F.size with ht | ht
  · rw [List.getElem?_take_of_lt ht, Array.getElem?_toList, Array.getElem?_toList]
    simp [putCells, show t < cur.size by omega, ht]
  · rw [List.getElem?_eq_none (by simp; omega), List.getElem?_eq_none (by simpa using ht)]
theorem sortOk_of {P : Program} {f g : FuncId} {α : Type} [Inhabited α] {z : Nat} {enc : α → List Value} {lt : α → α → Bool} (hz : ∀ x, (enc x).length = z)
    (hs : ∀ (blk off cap : Nat) (d : Array α) (w : World), HoldsK enc z w blk off d → blk < w.heap.size → d.size < 4611686018427387904 →
      Calls P f #[.slice (some ⟨blk, off, none⟩) d.size cap, .func (.func g) #[] #[]] w fun e w' => e = .returned (.tuple #[]) ∧ ∃ d' n os, PermIn 0 d.size d d' ∧ SortedIn lt 0 d.size d' ∧ w' = sortWorldK enc z w blk off n d' os)
    (hn : ∀ w : World, Calls P f #[.slice none 0 0, .func (.func g) #[] #[]] w fun e w' => e = .returned (.tuple #[]) ∧ w' = w) : SortOk P f g z enc lt := by
  refine ⟨fun b c l w cur e h1 h2 h3 h62 h4 h5 => ?_, hn⟩
  have hblt : b < w.heap.size := (Array.getElem?_eq_some_iff.1 h1).1
  have hfl : (flatK enc z l.toArray).toList = (l.map enc).flatten := by have := flatK_list hz l.toArray; simpa using this
  have hle : l.length * z ≤ cur.size := by rw [h4]; exact Nat.mul_le_mul_right _ h2
  have hH : HoldsK enc z w b 0 l.toArray := by
    intro j hj
    have hj' : j < l.length * z := by simpa using hj
    refine ⟨?_, frozen_of_row w b _ cur e h1⟩
    rw [Nat.zero_add, cell_of_row w b j cur e (0, 0) h1]
    have a1 := take_get h5 hj'
    rw [← hfl, Array.getElem?_toList, Array.getElem?_toList, Array.getElem?_eq_getElem hj] at a1
    rw [a1, ← getElem!_pos (flatK enc z l.toArray) j hj]
    rfl
  have hc := hs b 0 c l.toArray w hH hblt (by simpa using h62)
  have e0 : l.toArray.size = l.length := by simp
  rw [e0] at hc
  refine hc.mono ?_
  rintro ex w' ⟨rfl, d', n, os, hp, hso, rfl⟩
  obtain ⟨p1, _, p3⟩ := hp
  have hsz : d'.size = l.length := by simpa using p1
  have ex1 : (d'.extract 0 l.length).toList = d'.toList := by
    rw [Array.toList_extract]
    simp only [List.extract_eq_take_drop, List.drop_zero, Nat.sub_zero]
    exact List.take_of_length_le (by simp [hsz])
  have ex2 : (l.toArray.extract 0 l.length).toList = l := by
    rw [Array.toList_extract]
    simp [List.extract_eq_take_drop]
  rw [ex1, ex2] at p3
  refine ⟨rfl, d'.toList, putCells id 0 (flatK enc z d') cur, p3, ?_, ?_, by simp [putCells], ?_, fun k hk hne => ?_, ?_, rfl, rfl, rfl⟩
  · rw [List.pairwise_iff_getElem]
    intro i j hi hj hij
    have hj' : j < d'.size := by simpa using hj
    have := hso i j (Nat.zero_le _) hij (by omega)
    rw [getElem!_pos d' j hj', getElem!_pos d' i (by omega)] at this
    simpa using this
  · unfold sortWorldK putRowK
    rw [heap_grow_old _ _ (by simpa [putRow, mapBlock, Sort.ahead] using hblt)]
    simp [putRow, mapBlock, Sort.ahead, Array.getElem?_modify, h1, onCells]
  · have := take_putCells_id (F := flatK enc z d') (cur := cur) (by simp [hsz]; exact hle)
    rw [flatK_list hz d', size_flatK, hsz] at this
    exact this
  · unfold sortWorldK putRowK
    rw [heap_grow_old _ _ (by simpa [putRow, mapBlock, Sort.ahead] using hk)]
    simp [putRow, mapBlock, Sort.ahead, Array.getElem?_modify, Ne.symm hne]
  · unfold sortWorldK putRowK grow
    simp [putRow, mapBlock, Sort.ahead]
end Go.Proofs.Ytobgdemhadlgnaa.Av

namespace Go.Proofs.Ytobgdemhadlgnaa.Av
open Go Go.RowKit
/-- f(s, g) sorts a row of flat structures in place by the closure g, whose captures read as caps in a world where the row's block is not shared -/
def SortOkC (P : Program) (f g : FuncId) (caps : List DV) {α : Type} (z : Nat) (enc : α → List Value) (lt : α → α → Bool) : Prop :=
  ∀ (cv : Array Value) (U : Nat → Nat),
  (∀ (b c : Nat) (l : List α) (w : World) (cur : Array Value) (e : TypeId), U b = 0 → Rds w U cv.toList caps → w.heap[b]? = some (.cells cur e (0, 0)) → l.length ≤ c → c ≤ maxLen → l.length < 4611686018427387904 → cur.size = c * z → cur.toList.take (l.length * z) = (l.map enc).flatten →
    Calls P f #[.slice (some ⟨b, 0, none⟩) l.length c, .func (.func g) #[] cv] w fun ex w' => ex = .returned (.tuple #[]) ∧ ∃ (l' : List α) (cur' : Array Value), l'.Perm l ∧ l'.Pairwise (fun x y => lt y x = false) ∧
      w'.heap[b]? = some (.cells cur' e (0, 0)) ∧ cur'.size = cur.size ∧ cur'.toList.take (l.length * z) = (l'.map enc).flatten ∧ (∀ k, k < w.heap.size → k ≠ b → w'.heap[k]? = w.heap[k]?) ∧ w.heap.size ≤ w'.heap.size ∧ w'.os = w.os ∧ w'.tape = w.tape ∧ w'.output = w.output) ∧
  ∀ w : World, Calls P f #[.slice none 0 0, .func (.func g) #[] cv] w fun ex w' => ex = .returned (.tuple #[]) ∧ w' = w
section
variable {P : Program} {N : Nat} {w0 : World} {U0 : Nat → Nat}
theorem rg_sortC {caps : List DV} {ops : Array Oper} {o : Oper} {k : Nat} {L : List (Nat × AV)} {M : List (Nat × Ob)} {R : AS → Prop} {f g : FuncId} {s cf : Operand} {ats : Array TypeId} {α : Type} {z : Nat} {fα : α → List DV} {enc : α → List Value} {lt : α → α → Bool} {l : List α} {m0 : Nat} {e : TypeId}
    (ho : ops[k]? = some o) (hg : o.guard = none) (hop : o.op = .call { callee := .value (.func f), args := #[s, cf], argTypes := ats }) (hdst : o.dst = none) {fn : Func} (hf : P.funcs[f]? = some fn) (hn : (fn.name == "runtime.NumGoroutine") = false) (hb : fn.body.isNone = false)
    (hs : (SS L M).ev s = .ow m0) (hm : ln M m0 = .tr e z (tD fα l)) (hcf : (SS L M).ev cf = .d (.fn g caps)) (hfl : ∀ x, fα x = (enc x).map DV.fl) (hz : ∀ x, (enc x).length = z) (hone : ∀ x, ∀ v ∈ enc x, v.oneCell' = true) (hok : SortOkC P f g caps z enc lt) (h62 : l.length < 4611686018427387904)
    (h : ∀ l' : List α, l'.Perm l → l'.Pairwise (fun x y => lt y x = false) → RG P N w0 U0 ops (k + 1) (SS L ((m0, .tr e z (tD fα l')) :: M)) R) : RG P N w0 U0 ops k (SS L M) R := by
  refine ⟨fun a w hst Q hQ => ?_⟩
  have hlt : k < ops.size := (Array.getElem?_eq_some_iff.1 ho).1
  have e1 : ((List.range (ops.size - k)).map (· + k)) = k :: ((List.range (ops.size - (k + 1))).map (· + (k + 1))) := by
    rw [show ops.size - k = (ops.size - (k + 1)) + 1 by omega, List.range_succ_eq_map]
    simp only [List.map_cons, Nat.zero_add, List.map_map, List.cons.injEq, true_and]
    apply List.map_congr_left
    intro x _
    show x + 1 + k = x + (k + 1)
    omega
  rw [e1, wpOps_cons]
  unfold wpOp
  rw [ho]
  simp only
  have hw : Region.wanted o (yielded ops a.tmps) = true := by simp [Region.wanted, hg]
  rw [if_pos hw]
  refine .inl ?_
  obtain ⟨F, hF⟩ := hst.f
  have h1 : a.eval s = F.γ m0 := by have := hF.ev s; rw [hs] at this; exact this
  have h2 : Rd w F.U (a.eval cf) (.fn g caps) := by have := hF.ev cf; rw [hcf] at this; exact this
  obtain ⟨cv, h2', hcv⟩ : ∃ cv : Array Value, a.eval cf = .func (.func g) #[] cv ∧ Rds w F.U cv.toList caps := by
    generalize a.eval cf = v at h2
    cases h2 with
    | fn f vs cs hl hc => exact ⟨vs, rfl, ⟨by simpa using hl, hc⟩⟩
  have hnm : (SS L M).n m0 = .tr e z (tD fα l) := hm
  have hlive : ((SS L M).n m0).live = true := by rw [hnm]; rfl
  have hob := hF.n m0
  rw [hnm] at hob
  obtain ⟨xs, T, g1, g2, g3, g4, g5⟩ := hob
  have hlen : (tD fα l).length = l.length := by simp [tD]
  rw [hlen] at g1
  rw [tDf_flat hfl] at g2
  obtain ⟨hrc, hno⟩ := Tcs.noDv g2
  have hxs : xs = (l.map enc).flatten := rc_flat hrc
  obtain ⟨g1a, g1b⟩ := g1
  have hex : ∀ v, F.γ m0 = v → (execOp a.eval o).run P w = .ok (.enter f #[v, .func (.func g) #[] cv]) w := by
    intro v hv
    unfold execOp
    simp only [hop, resolve, Act.eval, Deferred.ofValue, invoke, Sem.run_bind, Sem.run_pure, Result.andThen_ok]
    have e1' : (#[] ++ Array.map a.eval #[s, cf] ++ #[] : Array Value) = #[v, .func (.func g) #[] cv] := by
      apply Array.ext'
      simp [h1, h2', hv]
    rw [e1']
    exact run_call hf hn hb _ w
  rcases g1b with ⟨hv, h0⟩ | ⟨b, cap, cur, q1, q2, q3, q4, q5, q6, q7⟩
  · have hl0 : l = [] := List.length_eq_zero_iff.1 h0
    unfold Oper.wp
    rw [hex _ hv, Oper.upon_enter]
    refine Calls.mono ((hok cv F.U).2 w) ?_
    rintro ex w' ⟨rfl, rfl⟩
    have hsame : SS L ((m0, .tr e z (tD fα l)) :: M) = SS L M := by
      unfold SS
      congr 1
      funext q
      show (bif Nat.beq m0 q then _ else ln M q) = ln M q
      cases hq : Nat.beq m0 q with
      | false => rfl
      | true => rw [← Nat.eq_of_beq_eq_true hq, hm]; rfl
    have hr := h l (List.Perm.refl _) (by rw [hl0]; exact List.Pairwise.nil)
    rw [hsame] at hr
    rw [hdst]
    exact hr.go a w' hst Q hQ
  · have hcall := (hok cv F.U).1 b cap l w cur e (g4 b (by rw [q1]; rfl)).1 hcv q3 q4 q5 h62 q6 (q7.trans hxs)
    unfold Oper.wp
    rw [hex _ q1, Oper.upon_enter]
    refine Calls.mono hcall ?_
    rintro ex w' ⟨rfl, l', cur', p1, p2, c1, c2, c3, c4, c5, c6, c7, c8⟩
    have hown : (F.γ m0).ownBlock = some b := by rw [q1]; rfl
    obtain ⟨gU, gT⟩ := g4 b hown
    have hll : l'.length = l.length := p1.length_eq
    have hE : Ext w F.U w' F.U := by
      refine ⟨fun b' off u hcl ho' => ?_, fun r es c hr hu => ?_⟩
      · have hne : b' ≠ b := fun h => by rw [h, gU] at ho'; omega
        have hlt' := World.block_lt_of_cell? w _ hcl
        exact ⟨(World.cell?_of_block (c4 b' hlt' hne)).trans hcl, ho'⟩
      · have hne : r ≠ b := fun h => by rw [h, gU] at hu; omega
        exact ⟨c4 r (Array.getElem?_eq_some_iff.1 hr).1 hne, rfl⟩
    have hlen' : (tD fα l').length = l.length := by simp [tD, hll]
    have hrow : w'.ownsRow w0.heap.size e z (F.γ m0) (tD fα l').length (l'.map enc).flatten := by
      rw [hlen', q1]
      refine ⟨?_, .inr ⟨b, cap, cur', rfl, q2, c1, q4, q5, by rw [c2, q6], c3⟩⟩
      have hfl1 : ∀ l : List α, (l.map enc).flatten.length = l.length * z := by
        intro l
        induction l with
        | nil => simp
        | cons x l ih => simp only [List.map_cons, List.flatten_cons, List.length_append, hz, ih, List.length_cons]; rw [Nat.add_mul]; omega
      rw [hfl1, hll]
    have hmem1 : ∀ v ∈ (l'.map enc).flatten, v.oneCell' = true := by
      intro v hv
      obtain ⟨r, hr, hvr⟩ := List.mem_flatten.1 hv
      obtain ⟨x, _, rfl⟩ := List.mem_map.1 hr
      exact hone x v hvr
    have key : ∀ q (o' : Ob), nwGet [(m0, Ob.tr e z (tD fα l'))] q = some o' → q = m0 ∧ o' = .tr e z (tD fα l') := by
      intro q o' hq
      unfold nwGet at hq
      cases hb' : Nat.beq m0 q with
      | true => rw [hb'] at hq; exact ⟨(Nat.eq_of_beq_eq_true hb').symm, (Option.some.inj hq).symm⟩
      | false => rw [hb'] at hq; cases hq
    have keyn : ∀ q, nwGet [(m0, Ob.tr e z (tD fα l'))] q = none → q ≠ m0 := by
      intro q hq hqm
      subst hqm
      unfold nwGet at hq
      rw [Nat.beq_refl] at hq; cases hq
    have hfit := hF.big (F' := F) (w' := w') (a' := a) (tw := none) (nw := [(m0, .tr e z (tD fα l'))]) hE (fun _ _ => rfl) (fun q hq => ⟨rfl, rfl, fun _ => Iff.rfl⟩) (fun q hq => .inl ⟨rfl, rfl⟩)
      (fun q hl hq b' hb' hlt' => by
        have hne : b' ≠ b := fun hh => by
          subst hh
          exact keyn q hq (hF.i q m0 b' hl hlive hb' ((g5 b').2 (.inl hown)))
        exact ⟨c4 b' hlt' hne, rfl⟩)
      (fun q o' hq => by
        obtain ⟨rfl, rfl⟩ := key q o' hq
        refine ⟨(l'.map enc).flatten, fun _ _ => False, hrow, by rw [tDf_flat hfl]; exact Tcs.ofRc (rc_of_flat hmem1), fun r hr => ?_, fun b' hb' => ⟨(g4 b' hb').1, fun _ h => h⟩, fun b' => ?_⟩
        · obtain ⟨y, hy, rfl⟩ := List.mem_map.1 hr
          obtain ⟨x, _, rfl⟩ := List.mem_map.1 hy
          rw [List.length_map, hfl, List.length_map, hz]
        · rw [g5 b']
          constructor
          · rintro (h | ⟨i, h⟩)
            · exact .inl h
            · exact absurd h (hno i b')
          · rintro (h | ⟨i, h⟩)
            · exact .inl h
            · exact h.elim)
      (fun q o' q' b' hq hl hq' hl' hb' hb2 => by
        obtain ⟨rfl, rfl⟩ := key q o' hq
        exact keyn q' hq' (hF.i q' q b' hl' hlive hb2 hb'))
      (fun q o' q' o2 b' hq hl hq' hl' hb' hb2 => by
        obtain ⟨rfl, _⟩ := key q o' hq
        obtain ⟨rfl, _⟩ := key q' o2 hq'
        rfl)
      (fun t => rfl) (fun d v h => by cases h) [] []
    rw [ap_ss] at hfit
    have hbel : Below w0.heap.size w0 w' := by
      have hb0 := hst.b
      exact ⟨c6.trans hb0.os, c7.trans hb0.tape, c8.trans hb0.output, Nat.le_trans hb0.size c5, fun i hi => (c4 i (by have := hb0.size; omega) (by omega)).trans (hb0.block i hi)⟩
    rw [hdst]
    exact (h l' p1 p2).go a w' ⟨hst.d, hst.s, hbel, F, hfit⟩ Q hQ
end
end Go.Proofs.Ytobgdemhadlgnaa.Av

namespace Go.Proofs.Ytobgdemhadlgnaa.Av
open Go Go.RowKit Go.Sort
theorem sortOkC_of {P : Program} {f g : FuncId} {caps : List DV} {α : Type} [Inhabited α] {z : Nat} {enc : α → List Value} {lt : α → α → Bool} (hz : ∀ x, (enc x).length = z)
    (hs : ∀ (cv : Array Value) (U : Nat → Nat) (blk off cap : Nat) (d : Array α) (w : World), U blk = 0 → Rds w U cv.toList caps → HoldsK enc z w blk off d → blk < w.heap.size → d.size < 4611686018427387904 →
      Calls P f #[.slice (some ⟨blk, off, none⟩) d.size cap, .func (.func g) #[] cv] w fun e w' => e = .returned (.tuple #[]) ∧ ∃ d' n os, PermIn 0 d.size d d' ∧ SortedIn lt 0 d.size d' ∧ w' = sortWorldK enc z w blk off n d' os)
    (hn : ∀ (cv : Array Value) (w : World), Calls P f #[.slice none 0 0, .func (.func g) #[] cv] w fun e w' => e = .returned (.tuple #[]) ∧ w' = w) : SortOkC P f g caps z enc lt := by
  refine fun cv U => ⟨fun b c l w cur e hU0 hcap h1 h2 h3 h62 h4 h5 => ?_, hn cv⟩
  have hblt : b < w.heap.size := (Array.getElem?_eq_some_iff.1 h1).1
  have hfl : (flatK enc z l.toArray).toList = (l.map enc).flatten := by have := flatK_list hz l.toArray; simpa using this
  have hle : l.length * z ≤ cur.size := by rw [h4]; exact Nat.mul_le_mul_right _ h2
  have hH : HoldsK enc z w b 0 l.toArray := by
    intro j hj
    have hj' : j < l.length * z := by simpa using hj
    refine ⟨?_, frozen_of_row w b _ cur e h1⟩
    rw [Nat.zero_add, cell_of_row w b j cur e (0, 0) h1]
    have a1 := take_get h5 hj'
    rw [← hfl, Array.getElem?_toList, Array.getElem?_toList, Array.getElem?_eq_getElem hj] at a1
    rw [a1, ← getElem!_pos (flatK enc z l.toArray) j hj]
    rfl
  have hc := hs cv U b 0 c l.toArray w hU0 hcap hH hblt (by simpa using h62)
  have e0 : l.toArray.size = l.length := by simp
  rw [e0] at hc
  refine hc.mono ?_
  rintro ex w' ⟨rfl, d', n, os, hp, hso, rfl⟩
  obtain ⟨p1, _, p3⟩ := hp
  have hsz : d'.size = l.length := by simpa using p1
  have ex1 : (d'.extract 0 l.length).toList = d'.toList := by
    rw [Array.toList_extract]
    simp only [List.extract_eq_take_drop, List.drop_zero, Nat.sub_zero]
    exact List.take_of_length_le (by simp [hsz])
  have ex2 : (l.toArray.extract 0 l.length).toList = l := by
    rw [Array.toList_extract]
    simp [List.extract_eq_take_drop]
  rw [ex1, ex2] at p3
  refine ⟨rfl, d'.toList, putCells id 0 (flatK enc z d') cur, p3, ?_, ?_, by simp [putCells], ?_, fun k hk hne => ?_, ?_, rfl, rfl, rfl⟩
  · rw [List.pairwise_iff_getElem]
    intro i j hi hj hij
    have hj' : j < d'.size := by simpa using hj
    have := hso i j (Nat.zero_le _) hij (by omega)
    rw [getElem!_pos d' j hj', getElem!_pos d' i (by omega)] at this
    simpa using this
  · unfold sortWorldK putRowK
    rw [heap_grow_old _ _ (by simpa [putRow, mapBlock, Sort.ahead] using hblt)]
    simp [putRow, mapBlock, Sort.ahead, Array.getElem?_modify, h1, onCells]
  · have := take_putCells_id (F := flatK enc z d') (cur := cur) (by simp [hsz]; exact hle)
    rw [flatK_list hz d', size_flatK, hsz] at this
    exact this
  · unfold sortWorldK putRowK
    rw [heap_grow_old _ _ (by simpa [putRow, mapBlock, Sort.ahead] using hk)]
    simp [putRow, mapBlock, Sort.ahead, Array.getElem?_modify, Ne.symm hne]
  · unfold sortWorldK putRowK grow
    simp [putRow, mapBlock, Sort.ahead]
end Go.Proofs.Ytobgdemhadlgnaa.Av

namespace Go.Proofs.Ytobgdemhadlgnaa.Av
open Go Go.RowKit
section
variable {P : Program} {N : Nat} {w0 : World} {U0 : Nat → Nat}
theorem rg_sortD {d : Nat} {caps : List DV} {ops : Array Oper} {o : Oper} {k : Nat} {L : List (Nat × AV)} {M : List (Nat × Ob)} {R : AS → Prop} {f g : FuncId} {s cf : Operand} {ats : Array TypeId} {α : Type} {z : Nat} {fα : α → List DV} {enc : α → List Value} {lt : α → α → Bool} {l : List α} {m0 : Nat} {e : TypeId}
    (ho : ops[k]? = some o) (hg : o.guard = none) (hop : o.op = .call { callee := .value (.func f), args := #[s, cf], argTypes := ats }) (hdst : o.dst = some d) (hd : dOk o N = true) {fn : Func} (hf : P.funcs[f]? = some fn) (hn : (fn.name == "runtime.NumGoroutine") = false) (hb : fn.body.isNone = false)
    (hs : (SS L M).ev s = .ow m0) (hm : ln M m0 = .tr e z (tD fα l)) (hcf : (SS L M).ev cf = .d (.fn g caps)) (hfl : ∀ x, fα x = (enc x).map DV.fl) (hz : ∀ x, (enc x).length = z) (hone : ∀ x, ∀ v ∈ enc x, v.oneCell' = true) (hok : SortOkC P f g caps z enc lt) (h62 : l.length < 4611686018427387904)
    (h : ∀ l' : List α, l'.Perm l → l'.Pairwise (fun x y => lt y x = false) → RG P N w0 U0 ops (k + 1) (SS ((d, .tu []) :: L) ((m0, .tr e z (tD fα l')) :: M)) R) : RG P N w0 U0 ops k (SS L M) R := by
  refine ⟨fun a w hst Q hQ => ?_⟩
  have hlt : k < ops.size := (Array.getElem?_eq_some_iff.1 ho).1
  have e1 : ((List.range (ops.size - k)).map (· + k)) = k :: ((List.range (ops.size - (k + 1))).map (· + (k + 1))) := by
    rw [show ops.size - k = (ops.size - (k + 1)) + 1 by omega, List.range_succ_eq_map]
    simp only [List.map_cons, Nat.zero_add, List.map_map, List.cons.injEq, true_and]
    apply List.map_congr_left
    intro x _
    show x + 1 + k = x + (k + 1)
    omega
  rw [e1, wpOps_cons]
  unfold wpOp
  rw [ho]
  simp only
  have hw : Region.wanted o (yielded ops a.tmps) = true := by simp [Region.wanted, hg]
  rw [if_pos hw]
  refine .inl ?_
  obtain ⟨F, hF⟩ := hst.f
  have h1 : a.eval s = F.γ m0 := by have := hF.ev s; rw [hs] at this; exact this
  have h2 : Rd w F.U (a.eval cf) (.fn g caps) := by have := hF.ev cf; rw [hcf] at this; exact this
  obtain ⟨cv, h2', hcv⟩ : ∃ cv : Array Value, a.eval cf = .func (.func g) #[] cv ∧ Rds w F.U cv.toList caps := by
    generalize a.eval cf = v at h2
    cases h2 with
    | fn f vs cs hl hc => exact ⟨vs, rfl, ⟨by simpa using hl, hc⟩⟩
  have hnm : (SS L M).n m0 = .tr e z (tD fα l) := hm
  have hlive : ((SS L M).n m0).live = true := by rw [hnm]; rfl
  have hob := hF.n m0
  rw [hnm] at hob
  obtain ⟨xs, T, g1, g2, g3, g4, g5⟩ := hob
  have hlen : (tD fα l).length = l.length := by simp [tD]
  rw [hlen] at g1
  rw [tDf_flat hfl] at g2
  obtain ⟨hrc, hno⟩ := Tcs.noDv g2
  have hxs : xs = (l.map enc).flatten := rc_flat hrc
  obtain ⟨g1a, g1b⟩ := g1
  have hex : ∀ v, F.γ m0 = v → (execOp a.eval o).run P w = .ok (.enter f #[v, .func (.func g) #[] cv]) w := by
    intro v hv
    unfold execOp
    simp only [hop, resolve, Act.eval, Deferred.ofValue, invoke, Sem.run_bind, Sem.run_pure, Result.andThen_ok]
    have e1' : (#[] ++ Array.map a.eval #[s, cf] ++ #[] : Array Value) = #[v, .func (.func g) #[] cv] := by
      apply Array.ext'
      simp [h1, h2', hv]
    rw [e1']
    exact run_call hf hn hb _ w
  rcases g1b with ⟨hv, h0⟩ | ⟨b, cap, cur, q1, q2, q3, q4, q5, q6, q7⟩
  · have hl0 : l = [] := List.length_eq_zero_iff.1 h0
    unfold Oper.wp
    rw [hex _ hv, Oper.upon_enter]
    refine Calls.mono ((hok cv F.U).2 w) ?_
    rintro ex w' ⟨rfl, rfl⟩
    have key : ∀ q (o' : Ob), nwGet [(m0, Ob.tr e z (tD fα l))] q = some o' → q = m0 ∧ o' = .tr e z (tD fα l) := by
      intro q o' hq
      unfold nwGet at hq
      cases hb' : Nat.beq m0 q with
      | true => rw [hb'] at hq; exact ⟨(Nat.eq_of_beq_eq_true hb').symm, (Option.some.inj hq).symm⟩
      | false => rw [hb'] at hq; cases hq
    have keyn : ∀ q, nwGet [(m0, Ob.tr e z (tD fα l))] q = none → q ≠ m0 := by
      intro q hq hqm
      subst hqm
      unfold nwGet at hq
      rw [Nat.beq_refl] at hq; cases hq
    have hfit := hF.big (F' := F) (w' := w') (tw := o.dst.map fun d => (d, AV.tu [])) (nw := [(m0, .tr e z (tD fα l))]) Ext.rfl (fun _ _ => rfl) (fun q hq => ⟨rfl, rfl, fun _ => Iff.rfl⟩) (fun q hq => .inl ⟨rfl, rfl⟩)
      (fun q hl hq b' hb' hlt' => ⟨rfl, rfl⟩)
      (fun q o' hq => by
        obtain ⟨rfl, rfl⟩ := key q o' hq
        have := hF.n q
        rw [hnm] at this; exact this)
      (fun q o' q' b' hq hl hq' hl' hb' hb2 => by
        obtain ⟨rfl, rfl⟩ := key q o' hq
        exact keyn q' hq' (hF.i q' q b' hl' hlive hb2 hb'))
      (fun q o' q' o2 b' hq hl hq' hl' hb' hb2 => by
        obtain ⟨rfl, _⟩ := key q o' hq
        obtain ⟨rfl, _⟩ := key q' o2 hq'
        rfl)
      (a' := a.put o.dst (.tuple #[])) (hta_put hd hst.s (.tu []) (.tuple #[])).1 (fun d v h => by
        obtain ⟨rfl, h3⟩ := (hta_put hd hst.s (.tu []) (.tuple #[])).2 d v h
        rw [h3]
        exact ⟨#[], rfl, Rds.nil⟩) [] []
    rw [ap_ss] at hfit
    rw [hdst] at hfit ⊢
    exact (h l (List.Perm.refl _) (by rw [hl0]; exact List.Pairwise.nil)).go _ w' ⟨by rw [put_defers]; exact hst.d, by rw [put_size]; exact hst.s, hst.b, F, hfit⟩ Q hQ
  · have hcall := (hok cv F.U).1 b cap l w cur e (g4 b (by rw [q1]; rfl)).1 hcv q3 q4 q5 h62 q6 (q7.trans hxs)
    unfold Oper.wp
    rw [hex _ q1, Oper.upon_enter]
    refine Calls.mono hcall ?_
    rintro ex w' ⟨rfl, l', cur', p1, p2, c1, c2, c3, c4, c5, c6, c7, c8⟩
    have hown : (F.γ m0).ownBlock = some b := by rw [q1]; rfl
    obtain ⟨gU, gT⟩ := g4 b hown
    have hll : l'.length = l.length := p1.length_eq
    have hE : Ext w F.U w' F.U := by
      refine ⟨fun b' off u hcl ho' => ?_, fun r es c hr hu => ?_⟩
      · have hne : b' ≠ b := fun h => by rw [h, gU] at ho'; omega
        have hlt' := World.block_lt_of_cell? w _ hcl
        exact ⟨(World.cell?_of_block (c4 b' hlt' hne)).trans hcl, ho'⟩
      · have hne : r ≠ b := fun h => by rw [h, gU] at hu; omega
        exact ⟨c4 r (Array.getElem?_eq_some_iff.1 hr).1 hne, rfl⟩
    have hlen' : (tD fα l').length = l.length := by simp [tD, hll]
    have hrow : w'.ownsRow w0.heap.size e z (F.γ m0) (tD fα l').length (l'.map enc).flatten := by
      rw [hlen', q1]
      refine ⟨?_, .inr ⟨b, cap, cur', rfl, q2, c1, q4, q5, by rw [c2, q6], c3⟩⟩
      have hfl1 : ∀ l : List α, (l.map enc).flatten.length = l.length * z := by
        intro l
        induction l with
        | nil => simp
        | cons x l ih => simp only [List.map_cons, List.flatten_cons, List.length_append, hz, ih, List.length_cons]; rw [Nat.add_mul]; omega
      rw [hfl1, hll]
    have hmem1 : ∀ v ∈ (l'.map enc).flatten, v.oneCell' = true := by
      intro v hv
      obtain ⟨r, hr, hvr⟩ := List.mem_flatten.1 hv
      obtain ⟨x, _, rfl⟩ := List.mem_map.1 hr
      exact hone x v hvr
    have key : ∀ q (o' : Ob), nwGet [(m0, Ob.tr e z (tD fα l'))] q = some o' → q = m0 ∧ o' = .tr e z (tD fα l') := by
      intro q o' hq
      unfold nwGet at hq
      cases hb' : Nat.beq m0 q with
      | true => rw [hb'] at hq; exact ⟨(Nat.eq_of_beq_eq_true hb').symm, (Option.some.inj hq).symm⟩
      | false => rw [hb'] at hq; cases hq
    have keyn : ∀ q, nwGet [(m0, Ob.tr e z (tD fα l'))] q = none → q ≠ m0 := by
      intro q hq hqm
      subst hqm
      unfold nwGet at hq
      rw [Nat.beq_refl] at hq; cases hq
    have hfit := hF.big (F' := F) (w' := w') (tw := o.dst.map fun d => (d, AV.tu [])) (nw := [(m0, .tr e z (tD fα l'))]) hE (fun _ _ => rfl) (fun q hq => ⟨rfl, rfl, fun _ => Iff.rfl⟩) (fun q hq => .inl ⟨rfl, rfl⟩)
      (fun q hl hq b' hb' hlt' => by
        have hne : b' ≠ b := fun hh => by
          subst hh
          exact keyn q hq (hF.i q m0 b' hl hlive hb' ((g5 b').2 (.inl hown)))
        exact ⟨c4 b' hlt' hne, rfl⟩)
      (fun q o' hq => by
        obtain ⟨rfl, rfl⟩ := key q o' hq
        refine ⟨(l'.map enc).flatten, fun _ _ => False, hrow, by rw [tDf_flat hfl]; exact Tcs.ofRc (rc_of_flat hmem1), fun r hr => ?_, fun b' hb' => ⟨(g4 b' hb').1, fun _ h => h⟩, fun b' => ?_⟩
        · obtain ⟨y, hy, rfl⟩ := List.mem_map.1 hr
          obtain ⟨x, _, rfl⟩ := List.mem_map.1 hy
          rw [List.length_map, hfl, List.length_map, hz]
        · rw [g5 b']
          constructor
          · rintro (h | ⟨i, h⟩)
            · exact .inl h
            · exact absurd h (hno i b')
          · rintro (h | ⟨i, h⟩)
            · exact .inl h
            · exact h.elim)
      (fun q o' q' b' hq hl hq' hl' hb' hb2 => by
        obtain ⟨rfl, rfl⟩ := key q o' hq
        exact keyn q' hq' (hF.i q' q b' hl' hlive hb2 hb'))
      (fun q o' q' o2 b' hq hl hq' hl' hb' hb2 => by
        obtain ⟨rfl, _⟩ := key q o' hq
        obtain ⟨rfl, _⟩ := key q' o2 hq'
        rfl)
      (a' := a.put o.dst (.tuple #[])) (hta_put hd hst.s (.tu []) (.tuple #[])).1 (fun d v h => by
        obtain ⟨rfl, h3⟩ := (hta_put hd hst.s (.tu []) (.tuple #[])).2 d v h
        rw [h3]
        exact ⟨#[], rfl, Rds.nil⟩) [] []
    rw [ap_ss] at hfit
    have hbel : Below w0.heap.size w0 w' := by
      have hb0 := hst.b
      exact ⟨c6.trans hb0.os, c7.trans hb0.tape, c8.trans hb0.output, Nat.le_trans hb0.size c5, fun i hi => (c4 i (by have := hb0.size; omega) (by omega)).trans (hb0.block i hi)⟩
    rw [hdst] at hfit ⊢
    exact (h l' p1 p2).go _ w' ⟨by rw [put_defers]; exact hst.d, by rw [put_size]; exact hst.s, hbel, F, hfit⟩ Q hQ
end
end Go.Proofs.Ytobgdemhadlgnaa.Av
