/- Rules: a row of texts or numbers of the call's own is sorted in place by slices.Sort. Conditions: as each theorem names them. -/
import Derived.Test.YtipkielpicfobaaAvS
import Derived.Sort.OwnSorted
set_option linter.unusedSimpArgs false
set_option linter.unusedVariables false
namespace Go.Proofs.Ytipkielpicfobaa.Av
open Go Go.RowKit Go.Sort
/-- f(s) sorts a row of single values in place; sr says how -/
def SortOkP (P : Program) (f : FuncId) {α : Type} (fα : α → Value) (sr : List α → List α) : Prop :=
  (∀ (b c : Nat) (l : List α) (w : World) (cur : Array Value) (e : TypeId), w.heap[b]? = some (.cells cur e (0, 0)) → l.length ≤ c → c ≤ maxLen → l.length < 4611686018427387904 → cur.size = c → cur.toList.take l.length = l.map fα →
    Calls P f #[.slice (some ⟨b, 0, none⟩) l.length c] w fun ex w' => ex = .returned (.tuple #[]) ∧ ∃ cur' : Array Value, w'.heap[b]? = some (.cells cur' e (0, 0)) ∧ cur'.size = cur.size ∧ cur'.toList.take l.length = (sr l).map fα ∧
      (∀ k, k < w.heap.size → k ≠ b → w'.heap[k]? = w.heap[k]?) ∧ w.heap.size ≤ w'.heap.size ∧ w'.os = w.os ∧ w'.tape = w.tape ∧ w'.output = w.output) ∧
  ∀ (p : Option Addr) (cap : Nat) (w : World), Calls P f #[.slice p 0 cap] w fun e w' => e = .returned (.tuple #[]) ∧ w' = w
theorem flat_fl {α : Type} {gα : α → List DV} {fα : α → Value} (hgf : ∀ x, gα x = [.fl (fα x)]) : ∀ l : List α, (l.map gα).flatten = (l.map fα).map .fl
  | [] => rfl
  | x :: l => by
    have ih := flat_fl hgf l
    simp only [List.map_cons, List.flatten_cons, hgf, ih]; rfl
theorem rc_fl {α : Type} {gα : α → List DV} {fα : α → Value} (hgf : ∀ x, gα x = [.fl (fα x)]) (ho1 : ∀ x, (fα x).oneCell' = true) {w : World} {U : Nat → Nat} : ∀ m : List α, Rc w U (m.map fα) ((m.map gα).flatten)
  | [] => ⟨Rds.nil, fun u h => by cases h⟩
  | x :: m => by
    have ih := rc_fl hgf ho1 (w := w) (U := U) m
    simp only [List.map_cons, List.flatten_cons, hgf]
    exact (show Rc w U [fα x] [.fl (fα x)] from ⟨Rds.cons (.fl _) Rds.nil, fun u hu => by rw [List.mem_singleton] at hu; rw [hu]; exact ho1 x⟩).append ih
/-- the shelf's contract over a row that is read through a map of the elements -/
theorem sortOkP_of {P : Program} {f : FuncId} {α β : Type} [Inhabited β] {fα : α → Value} {enc : β → Value} {to : α → β} {sr : List α → List α} {sb : List β → List β} (he : ∀ x, enc (to x) = fα x) (hsb : ∀ l, (sb (l.map to)) = (sr l).map to) (hsl : ∀ l, (sr l).length = l.length)
    (tk : ∀ (cur : Array Value) (ts : List β), ts.length ≤ cur.size → (putCells enc 0 ts.toArray cur).toList.take ts.length = ts.map enc)
    (hg : ∀ (blk off cap : Nat) (ss : List β) (w : World), Holds enc w blk off ss.toArray → blk < w.heap.size → ss.length < 4611686018427387904 → Calls P f #[.slice (some ⟨blk, off, none⟩) ss.length cap] w fun e w' => e = .returned (.tuple #[]) ∧ ∃ n os, w' = grow (putRow enc (Sort.ahead w n) blk off (sb ss).toArray) os)
    (hn : ∀ (p : Option Addr) (cap : Nat) (w : World), Calls P f #[.slice p 0 cap] w fun e w' => e = .returned (.tuple #[]) ∧ w' = w) : SortOkP P f fα sr := by
  refine ⟨fun b c l w cur e h1 h2 h3 h62 h4 h5 => ?_, hn⟩
  have hblt : b < w.heap.size := (Array.getElem?_eq_some_iff.1 h1).1
  have hH : Holds enc w b 0 (l.map to).toArray := by
    intro j hj
    have hj' : j < l.length := by simpa using hj
    refine ⟨?_, frozen_of_row w b _ cur e h1⟩
    rw [Nat.zero_add, cell_of_row w b j cur e (0, 0) h1]
    have a1 : (cur.toList.take l.length)[j]? = (l.map fα)[j]? := by rw [h5]
    rw [List.getElem?_take, if_pos hj', List.getElem?_map, Array.getElem?_toList, List.getElem?_eq_getElem hj'] at a1
    rw [a1, getElem!_pos _ j hj]
    simp [he]
  have hcall := hg b 0 c (l.map to) w hH hblt (by simpa using h62)
  rw [List.length_map] at hcall
  refine hcall.mono ?_
  rintro ex w' ⟨rfl, n, os, rfl⟩
  have hll : (sb (l.map to)).length = l.length := by rw [hsb, List.length_map, hsl]
  have hold : ∀ k, k < w.heap.size → k ≠ b → (grow (putRow enc (Sort.ahead w n) b 0 (sb (l.map to)).toArray) os).heap[k]? = w.heap[k]? := by
    intro k hk hne
    rw [heap_grow_old _ _ (by simpa [putRow, mapBlock, Sort.ahead] using hk)]
    simp [putRow, mapBlock, Sort.ahead, Array.getElem?_modify, Ne.symm hne]
  refine ⟨rfl, putCells enc 0 (sb (l.map to)).toArray cur, ?_, by simp [putCells], ?_, hold, ?_, rfl, rfl, rfl⟩
  · rw [heap_grow_old _ _ (by simpa [putRow, mapBlock, Sort.ahead] using hblt)]
    simp [putRow, mapBlock, Sort.ahead, Array.getElem?_modify, h1, onCells]
  · have := tk cur (sb (l.map to)) (by rw [hll, h4]; exact h2)
    rw [hll] at this
    rw [this, hsb, List.map_map]
    exact List.map_congr_left fun x _ => he x
  · unfold grow
    simp [putRow, mapBlock, Sort.ahead]
section
variable {P : Program} {N : Nat} {w0 : World} {U0 : Nat → Nat}
theorem rg_sortP {d : Nat} {ops : Array Oper} {o : Oper} {k : Nat} {L : List (Nat × AV)} {M : List (Nat × Ob)} {R : AS → Prop} {f : FuncId} {s : Operand} {ats : Array TypeId} {α : Type} {gα : α → List DV} {fα : α → Value} {sr : List α → List α} {l : List α} {m0 : Nat} {e : TypeId}
    (ho : ops[k]? = some o) (hg : o.guard = none) (hop : o.op = .call { callee := .value (.func f), args := #[s], argTypes := ats }) (hdst : o.dst = some d) (hd : dOk o N = true) {fn : Func} (hf : P.funcs[f]? = some fn) (hn : (fn.name == "runtime.NumGoroutine") = false) (hb : fn.body.isNone = false)
    (hs : (SS L M).ev s = .ow m0) (hm : ln M m0 = .tr e 1 (tD gα l)) (hgf : ∀ x, gα x = [.fl (fα x)]) (ho1 : ∀ x, (fα x).oneCell' = true) (hok : SortOkP P f fα sr) (hsl : ∀ l, (sr l).length = l.length) (h62 : l.length < 4611686018427387904)
    (h : RG P N w0 U0 ops (k + 1) (SS ((d, .tu []) :: L) ((m0, .tr e 1 (tD gα (sr l))) :: M)) R) : RG P N w0 U0 ops k (SS L M) R := by
  refine ⟨fun a w hst Q hQ => ?_⟩
  have hlt : k < ops.size := (Array.getElem?_eq_some_iff.1 ho).1
  have e1 : ((List.range (ops.size - k)).map (· + k)) = k :: ((List.range (ops.size - (k + 1))).map (· + (k + 1))) := by
    rw [show ops.size - k = (ops.size - (k + 1)) + 1 by omega, List.range_succ_eq_map]
    simp only [List.map_cons, Nat.zero_add, List.map_map, List.cons.injEq, true_and]
    apply List.map_congr_left
    intro x _
    show x + 1 + k = x + (k + 1)
    omega
  rw [e1, wpOps_cons]
  unfold wpOp
  rw [ho]
  simp only
  have hw : Region.wanted o (yielded ops a.tmps) = true := by simp [Region.wanted, hg]
  rw [if_pos hw]
  refine .inl ?_
  obtain ⟨F, hF⟩ := hst.f
  have h1 : a.eval s = F.γ m0 := by have := hF.ev s; rw [hs] at this; exact this
  have hnm : (SS L M).n m0 = .tr e 1 (tD gα l) := hm
  have hlive : ((SS L M).n m0).live = true := by rw [hnm]; rfl
  have hob := hF.n m0
  rw [hnm] at hob
  obtain ⟨xs, T, g1, g2, g3, g4, g5⟩ := hob
  have hlen : (tD gα l).length = l.length := by simp [tD]
  rw [hlen] at g1
  rw [tD_flat] at g2
  obtain ⟨hrc, hno⟩ := Tcs.noDv g2
  obtain ⟨g1a, g1b⟩ := g1
  have hex : ∀ v, F.γ m0 = v → (execOp a.eval o).run P w = .ok (.enter f #[v]) w := by
    intro v hv
    unfold execOp
    simp only [hop, resolve, Act.eval, Deferred.ofValue, invoke, Sem.run_bind, Sem.run_pure, Result.andThen_ok]
    have e1' : (#[] ++ Array.map a.eval #[s] ++ #[] : Array Value) = #[v] := by
      apply Array.ext'
      simp [h1, hv]
    rw [e1']
    exact run_call hf hn hb _ w
  rcases g1b with ⟨hv, h0⟩ | ⟨b, cap, cur, q1, q2, q3, q4, q5, q6, q7⟩
  · have hl0 : l = [] := List.length_eq_zero_iff.1 h0
    unfold Oper.wp
    rw [hex _ hv, Oper.upon_enter]
    refine Calls.mono (hok.2 none 0 w) ?_
    rintro ex w' ⟨rfl, rfl⟩
    have key : ∀ q (o' : Ob), nwGet [(m0, Ob.tr e 1 (tD gα l))] q = some o' → q = m0 ∧ o' = .tr e 1 (tD gα l) := by
      intro q o' hq
      unfold nwGet at hq
      cases hb' : Nat.beq m0 q with
      | true => rw [hb'] at hq; exact ⟨(Nat.eq_of_beq_eq_true hb').symm, (Option.some.inj hq).symm⟩
      | false => rw [hb'] at hq; cases hq
    have keyn : ∀ q, nwGet [(m0, Ob.tr e 1 (tD gα l))] q = none → q ≠ m0 := by
      intro q hq hqm
      subst hqm
      unfold nwGet at hq
      rw [Nat.beq_refl] at hq; cases hq
    have hfit := hF.big (F' := F) (w' := w') (tw := o.dst.map fun d => (d, AV.tu [])) (nw := [(m0, .tr e 1 (tD gα l))]) Ext.rfl (fun _ _ => rfl) (fun q hq => ⟨rfl, rfl, fun _ => Iff.rfl⟩) (fun q hq => .inl ⟨rfl, rfl⟩)
      (fun q hl hq b' hb' hlt' => ⟨rfl, rfl⟩)
      (fun q o' hq => by
        obtain ⟨rfl, rfl⟩ := key q o' hq
        have := hF.n q
        rw [hnm] at this; exact this)
      (fun q o' q' b' hq hl hq' hl' hb' hb2 => by
        obtain ⟨rfl, rfl⟩ := key q o' hq
        exact keyn q' hq' (hF.i q' q b' hl' hlive hb2 hb'))
      (fun q o' q' o2 b' hq hl hq' hl' hb' hb2 => by
        obtain ⟨rfl, _⟩ := key q o' hq
        obtain ⟨rfl, _⟩ := key q' o2 hq'
        rfl)
      (a' := a.put o.dst (.tuple #[])) (hta_put hd hst.s (.tu []) (.tuple #[])).1 (fun d v h => by
        obtain ⟨rfl, h3⟩ := (hta_put hd hst.s (.tu []) (.tuple #[])).2 d v h
        rw [h3]
        exact ⟨#[], rfl, Rds.nil⟩) [] []
    rw [ap_ss] at hfit
    rw [hdst] at hfit ⊢
    have hs0 : sr l = l := by rw [hl0]; exact List.length_eq_zero_iff.1 (hsl [])
    rw [hs0] at h
    exact h.go _ w' ⟨by rw [put_defers]; exact hst.d, by rw [put_size]; exact hst.s, hst.b, F, hfit⟩ Q hQ
  · have hxs : xs = l.map fα := by
      have h0 := flat_fl hgf l
      rw [h0] at hrc
      refine List.ext_getElem? fun i => ?_
      have hll := hrc.1.1
      rw [List.length_map] at hll
      rcases Nat.lt_or_ge i xs.length with hi | hi
      · have := hrc.1.2 i _ (.fl ((l.map fα)[i]'(by omega))) (List.getElem?_eq_getElem hi) (by rw [List.getElem?_map, List.getElem?_eq_getElem (by omega)]; rfl)
        rw [List.getElem?_eq_getElem hi, List.getElem?_eq_getElem (by omega)]
        generalize (l.map fα)[i]'(by omega) = y at this
        generalize xs[i] = x at this
        cases this; rfl
      · rw [List.getElem?_eq_none hi, List.getElem?_eq_none (by omega)]
    have hcall := hok.1 b cap l w cur e q3 q4 q5 h62 (by rw [q6, Nat.mul_one]) (by rw [← hxs]; simpa using q7)
    unfold Oper.wp
    rw [hex _ q1, Oper.upon_enter]
    refine Calls.mono hcall ?_
    rintro ex w' ⟨rfl, cur', c1, c2, c3, c4, c5, c6, c7, c8⟩
    have hown : (F.γ m0).ownBlock = some b := by rw [q1]; rfl
    obtain ⟨gU, gT⟩ := g4 b hown
    have hll : (sr l).length = l.length := hsl l
    have hrc' : Rc w' F.U ((sr l).map fα) (((sr l).map gα).flatten) := by
      exact rc_fl hgf ho1 _
    have hE : Ext w F.U w' F.U := by
      refine ⟨fun b' off u hcl ho' => ?_, fun r es c hr hu => ?_⟩
      · have hne : b' ≠ b := fun h => by rw [h, gU] at ho'; omega
        have hlt' := World.block_lt_of_cell? w _ hcl
        exact ⟨(World.cell?_of_block (c4 b' hlt' hne)).trans hcl, ho'⟩
      · have hne : r ≠ b := fun h => by rw [h, gU] at hu; omega
        exact ⟨c4 r (Array.getElem?_eq_some_iff.1 hr).1 hne, rfl⟩
    have hlen' : (tD gα (sr l)).length = l.length := by simp [tD, hll]
    have hrow : w'.ownsRow w0.heap.size e 1 (F.γ m0) (tD gα (sr l)).length ((sr l).map fα) := by
      rw [hlen', q1]
      refine ⟨?_, .inr ⟨b, cap, cur', rfl, q2, c1, q4, q5, by rw [c2, q6], by simpa using c3⟩⟩
      simp [hll]
    have key : ∀ q (o' : Ob), nwGet [(m0, Ob.tr e 1 (tD gα (sr l)))] q = some o' → q = m0 ∧ o' = .tr e 1 (tD gα (sr l)) := by
      intro q o' hq
      unfold nwGet at hq
      cases hb' : Nat.beq m0 q with
      | true => rw [hb'] at hq; exact ⟨(Nat.eq_of_beq_eq_true hb').symm, (Option.some.inj hq).symm⟩
      | false => rw [hb'] at hq; cases hq
    have keyn : ∀ q, nwGet [(m0, Ob.tr e 1 (tD gα (sr l)))] q = none → q ≠ m0 := by
      intro q hq hqm
      subst hqm
      unfold nwGet at hq
      rw [Nat.beq_refl] at hq; cases hq
    have hfit := hF.big (F' := F) (w' := w') (tw := o.dst.map fun d => (d, AV.tu [])) (nw := [(m0, .tr e 1 (tD gα (sr l)))]) hE (fun _ _ => rfl) (fun q hq => ⟨rfl, rfl, fun _ => Iff.rfl⟩) (fun q hq => .inl ⟨rfl, rfl⟩)
      (fun q hl hq b' hb' hlt' => by
        have hne : b' ≠ b := fun hh => by
          subst hh
          exact keyn q hq (hF.i q m0 b' hl hlive hb' ((g5 b').2 (.inl hown)))
        exact ⟨c4 b' hlt' hne, rfl⟩)
      (fun q o' hq => by
        obtain ⟨rfl, rfl⟩ := key q o' hq
        refine ⟨(sr l).map fα, fun _ _ => False, hrow, by rw [tD_flat]; exact Tcs.ofRc hrc', fun r hr => ?_, fun b' hb' => ⟨(g4 b' hb').1, fun _ h => h⟩, fun b' => ?_⟩
        · obtain ⟨y, hy, rfl⟩ := List.mem_map.1 hr
          obtain ⟨x, _, rfl⟩ := List.mem_map.1 hy
          rw [List.length_map, hgf]; rfl
        · rw [g5 b']
          constructor
          · rintro (h | ⟨i, h⟩)
            · exact .inl h
            · exact absurd h (hno i b')
          · rintro (h | ⟨i, h⟩)
            · exact .inl h
            · exact h.elim)
      (fun q o' q' b' hq hl hq' hl' hb' hb2 => by
        obtain ⟨rfl, rfl⟩ := key q o' hq
        exact keyn q' hq' (hF.i q' q b' hl' hlive hb2 hb'))
      (fun q o' q' o2 b' hq hl hq' hl' hb' hb2 => by
        obtain ⟨rfl, _⟩ := key q o' hq
        obtain ⟨rfl, _⟩ := key q' o2 hq'
        rfl)
      (a' := a.put o.dst (.tuple #[])) (hta_put hd hst.s (.tu []) (.tuple #[])).1 (fun d v h => by
        obtain ⟨rfl, h3⟩ := (hta_put hd hst.s (.tu []) (.tuple #[])).2 d v h
        rw [h3]
        exact ⟨#[], rfl, Rds.nil⟩) [] []
    rw [ap_ss] at hfit
    have hbel : Below w0.heap.size w0 w' := by
      have hb0 := hst.b
      exact ⟨c6.trans hb0.os, c7.trans hb0.tape, c8.trans hb0.output, Nat.le_trans hb0.size c5, fun i hi => (c4 i (by have := hb0.size; omega) (by omega)).trans (hb0.block i hi)⟩
    rw [hdst] at hfit ⊢
    exact h.go _ w' ⟨by rw [put_defers]; exact hst.d, by rw [put_size]; exact hst.s, hbel, F, hfit⟩ Q hQ
end
end Go.Proofs.Ytipkielpicfobaa.Av
