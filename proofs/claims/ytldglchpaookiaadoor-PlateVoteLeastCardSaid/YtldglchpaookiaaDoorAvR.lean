/- Rules: a range over a map that nobody writes meanwhile, in whatever order. Conditions: as each theorem names them. -/
import Derived.Test.YtldglchpaookiaaDoorAvE
import Derived.Test.YtldglchpaookiaaDoorAvS
import Derived.ChangeMaps4
set_option linter.unusedSimpArgs false
set_option linter.unusedVariables false
namespace Go.Proofs.YtldglchpaookiaaDoor.Av
open Go Go.RowKit
open Go.ChangeMaps (setBlock)
section
variable {P : Program} {N : Nat} {w0 : World} {U0 : Nat → Nat}
theorem run_nextM (w : World) (ty : TypeId) (b r since last : Nat) (seen : Array Nat) (es : Array MapEntry) (c : Nat) (hi : w.heap[b]? = some (.mapIter (some r) since seen last)) (hb : w.heap[r]? = some (.map es c))
    (hold : ∀ x ∈ es.toList, x.born < since) (hsc : since ≤ last) :
    (es.toList.filter (fun e => !seen.contains e.born) = [] ∧ (Instr.next (.pointer (some ⟨b, 0, none⟩)) false ty).run P w = .ok (.tuple #[.bool false]) w) ∨
    ∃ (j : Nat) (e : MapEntry) (w1 : World), (es.toList.filter (fun e => !seen.contains e.born))[j]? = some e ∧ (w1 = w ∨ w1 = w.drew) ∧ (Instr.next (.pointer (some ⟨b, 0, none⟩)) false ty).run P w = .ok (.tuple #[.bool true, e.key, e.val]) (setBlock w1 b (.mapIter (some r) since (seen.push e.born) c)) := by
  have htf : (!seen.isEmpty && !es.isEmpty && es.all (fun x => decide (x.born ≥ last))) = false := by
    cases he : es.isEmpty with
    | true => simp
    | false =>
      have hall : es.all (fun x => decide (x.born ≥ last)) = false := by
        rw [Bool.eq_false_iff]
        intro h
        rw [Array.all_eq_true_iff_forall_mem] at h
        have h0 : 0 < es.size := by
          rcases Nat.eq_zero_or_pos es.size with h0 | h0
          · simp [Array.isEmpty, h0] at he
          · exact h0
        have hm : es[0] ∈ es := Array.getElem_mem h0
        have h1 := h _ hm
        have h2 := hold es[0] (by simp)
        simp at h1
        omega
      simp [hall]
  simp only [Instr.next, getObj, Sem.run_bind, Sem.run, hi, hb, Result.andThen, htf, Bool.false_eq_true, if_false]
  have hmem : ∀ x ∈ (Array.filter (fun e => !seen.contains e.born) es).toList, x.born < since := fun x hx => hold x (by simp at hx ⊢; exact hx.1)
  have hL : es.toList.filter (fun e => !seen.contains e.born) = (Array.filter (fun e => !seen.contains e.born) es).toList := by simp
  rw [hL]
  generalize Array.filter (fun e => !seen.contains e.born) es = L at hmem ⊢
  have e1 : L.filter (fun x => decide (x.born < since)) = L := Array.filter_eq_self.2 (fun x hx => by simpa using hmem x (by simpa using hx))
  have e2 : L.filter (fun x => decide (x.born ≥ since)) = #[] := by
    rw [Array.filter_eq_empty_iff]
    intro x hx
    have := hmem x (by simpa using hx)
    simp
    omega
  simp only [e1, e2, Array.append_empty]
  by_cases h0 : L.size = 0
  · left
    have : L = #[] := Array.eq_empty_of_size_eq_zero h0
    subst this
    refine ⟨rfl, ?_⟩
    simp [choose, Sem.run, Question.forced]
  · right
    have hne : L.isEmpty = false := by simp [Array.isEmpty, h0]
    simp only [hne, Bool.false_eq_true, if_false, Array.empty_append, Array.size_map]
    have hch : ∃ (j : Nat) (w1 : World), j < L.size ∧ (w1 = w ∨ w1 = w.drew) ∧ (choose (Question.mapNext L.size)).run P w = .ok j w1 := by
      by_cases hf : L.size ≤ 1
      · exact ⟨0, w, by omega, .inl rfl, by simp [choose, Sem.run, Question.forced, hf]⟩
      · exact ⟨_, w.drew, Nat.mod_lt _ (by omega), .inr rfl, by
          simp only [choose, Sem.run, Question.forced, decide_eq_true_eq, hf, if_false, Question.cut]
          rfl⟩
    obtain ⟨j, w1, hj, hal, hrun⟩ := hch
    refine ⟨j, L[j], w1, by rw [Array.getElem?_toList]; exact Array.getElem?_eq_getElem hj, hal, ?_⟩
    have hi1 : w1.heap[b]? = some (.mapIter (some r) since seen last) := by rcases hal with rfl | rfl <;> exact hi
    have hset : ∀ o', (setObj b o').run P w1 = .ok () (setBlock w1 b o') := fun o' => by simp [setObj, Sem.run, hi1, setBlock]
    simp only [hrun, Array.getElem?_map, Array.getElem?_eq_getElem hj, Option.map_some, Sem.run_bind, hset, Result.andThen]
    rfl
theorem op_rangeM {o : Oper} {σ : AS} {t kt et : TypeId} {x : Operand} (m : Nat) (ho : o.op = .range t x) (hu : P.underlying t = some (.map kt et)) {ents : List (Value × DV)} (hx : σ.ev x = .d (.mp ents)) (hd : dOk o N = true) : OpS P N w0 U0 o σ ⟨o.dst.map fun d => (d, .ow m), [(m, .mi ents none)], [], [m]⟩ := by
  intro σ' hok a w hs K Q hK
  obtain ⟨F, hF⟩ := hs.f
  have hvx := ev_get hok hF (x := x) (by simp [ho, Op.operands]) hx
  generalize hv : a.eval x = v at hvx
  cases hvx with
  | mp r es c ents hb hu2 hl hk hv2 hst =>
  have hlt : r < w.heap.size := (Array.getElem?_eq_some_iff.1 hb).1
  have hents : Ents w F.U es.toList ents := ⟨by simpa using hl, fun i e x h1 h2 => ⟨hk i e x h1 h2, hv2 i e x h1 h2⟩⟩
  obtain ⟨U', hU'⟩ : ∃ U' : Nat → Nat, U' = fun b => if b = w.heap.size then 0 else F.U b := ⟨_, rfl⟩
  have hU1 : U' w.heap.size = 0 := by rw [hU']; simp
  have hU2 : ∀ b, b < w.heap.size → U' b = F.U b := fun b hb => by rw [hU']; simp; intro h; omega
  have hE : Ext w F.U (w.alloc (.mapIter (some r) c #[] c)) U' := Up.ext ⟨fun b hlt => Below.heap_alloc w _ b hlt, hU2⟩
  have hnew : (w.alloc (.mapIter (some r) c #[] c)).heap[w.heap.size]? = some (.mapIter (some r) c #[] c) := Go.heap_alloc_new w _
  have hfit := hF.name (kill := none) (bo := some w.heap.size) (γv := .pointer (some ⟨w.heap.size, 0, none⟩)) (U' := U') (v := .pointer (some ⟨w.heap.size, 0, none⟩)) (av := .ow m) (m := m) (ob := .mi ents none) (hok.f m (by simp)) hE (fun b hb => hU2 b (by have := hs.b.size; omega)) (fun k b hl _ hb hlt => ⟨Below.heap_alloc w _ b hlt, hU2 b hlt⟩)
      (fun k b hl _ hb e => by have := live_lt hF hl hb; injection e with e; omega)
      (by
        refine ⟨w.heap.size, r, es, c, c, #[], c, by show (if m = m then _ else _) = _; rw [if_pos rfl], hs.b.size, hU1, hnew, fun b => ?_, ?_, ?_, hst, Nat.le_refl _, Nat.le_refl _, ?_, trivial⟩
        · show (if m = m then some w.heap.size = some b else _) ↔ _; rw [if_pos rfl]; exact ⟨fun h => by injection h with h; exact h.symm, fun h => by rw [h]⟩
        · rw [Below.heap_alloc w _ r hlt]; exact hb
        · show 0 < U' r; rw [hU2 r hlt]; exact hu2
        · have : es.toList.filter (fun e => !(#[] : Array Nat).contains e.born) = es.toList := by
            rw [List.filter_eq_self]; intro a _; simp
          rw [this]; exact hents.ext hE)
      hd hs.s (by show _ = (if m = m then _ else _); rw [if_pos rfl]) []
  have hrun : (execOp a.eval o).run P w = .ok (.value (.pointer (some ⟨w.heap.size, 0, none⟩))) (w.alloc (.mapIter (some r) c #[] c)) := by
    have hg := MapKept.run_getObj_map (P := P) hb
    simp [execOp, ho, hv, Instr.range, run_underlying hu, hg, newObj, Sem.run]
  unfold Oper.wp
  rw [hrun]
  exact hK _ _ ⟨by rw [put_defers]; exact hs.d, by rw [put_size]; exact hs.s, hs.b.alloc hs.b.size _, _, hfit⟩
theorem ents_erase {w : World} {U : Nat → Nat} : ∀ {es : List MapEntry} {xs : List (Value × DV)} {j : Nat}, Ents w U es xs → Ents w U (es.eraseIdx j) (xs.eraseIdx j) := by
  intro es xs j h
  refine ⟨?_, fun i e x h1 h2 => ?_⟩
  · rw [List.length_eraseIdx, List.length_eraseIdx, h.1]
  · rw [List.getElem?_eraseIdx] at h1 h2
    split at h1
    · rw [if_pos ‹_›] at h2; exact h.2 i e x h1 h2
    · rw [if_neg ‹_›] at h2; exact h.2 (i + 1) e x h1 h2
theorem filter_push {es : List MapEntry} {seen : Array Nat} {j : Nat} {e : MapEntry} (hn : (es.map (·.born)).Nodup) (he : (es.filter fun e => !seen.contains e.born)[j]? = some e) :
    es.filter (fun x => !(seen.push e.born).contains x.born) = (es.filter fun x => !seen.contains x.born).eraseIdx j := by
  have h1 : es.filter (fun x => !(seen.push e.born).contains x.born) = (es.filter fun x => !seen.contains x.born).filter fun x => !(x.born == e.born) := by
    rw [List.filter_filter]
    refine List.filter_congr fun x _ => ?_
    rw [show (seen.push e.born).contains x.born = (seen.contains x.born || x.born == e.born) from by rw [Array.contains_push]]
    cases seen.contains x.born <;> cases x.born == e.born <;> rfl
  rw [h1]
  have hn2 : ((es.filter fun x => !seen.contains x.born).map (·.born)).Nodup := hn.sublist (List.Sublist.map _ List.filter_sublist)
  clear h1 hn
  generalize (es.filter fun x => !seen.contains x.born) = l at he hn2
  induction l generalizing j with
  | nil => simp at he
  | cons x l ih =>
    rw [List.map_cons, List.nodup_cons] at hn2
    cases j with
    | zero =>
      simp only [List.getElem?_cons_zero, Option.some.injEq] at he
      subst he
      simp only [List.filter_cons, beq_self_eq_true, Bool.not_true, Bool.false_eq_true, if_false, List.eraseIdx_zero, List.tail_cons]
      refine List.filter_eq_self.2 fun y hy => ?_
      have : y.born ≠ x.born := fun h => hn2.1 (by rw [← h]; exact List.mem_map_of_mem hy)
      simpa using this
    | succ j =>
      simp only [List.getElem?_cons_succ] at he
      have hx : x.born ≠ e.born := fun h => hn2.1 (by rw [h]; exact List.mem_map_of_mem (List.mem_of_getElem? he))
      have : (!(x.born == e.born)) = true := by simpa using hx
      simp only [List.filter_cons, this, if_true, List.eraseIdx_cons_succ]
      rw [ih he hn2.2]
theorem op_entry {o : Oper} {σ : AS} {x : Operand} (ho : o.op = .entry x) {m : Nat} {left : List (Value × DV)} {v : Value × DV} (hx : σ.ev x = .ow m) (hm : σ.n m = .mi left (some v)) (hd : dOk o N = true) :
    OpS P N w0 U0 o σ ⟨o.dst.map fun d => (d, .tu [.fl v.1, v.2]), [], [m], []⟩ := by
  intro σ' hok a w hs K Q hK
  obtain ⟨F, hF⟩ := hs.f
  have hv : a.eval x = F.γ m := ev_get hok hF (x := x) (by simp [ho, Op.operands]) hx
  have hm' : σ'.n m = .mi left (some v) := by rw [hok.n m (by simp)]; exact hm
  have hob := hF.n m
  rw [hm'] at hob
  obtain ⟨b, r, es, c, since, seen, last, q1, q2, q3, q4, q5, q6, q7, q8, q9, q10, q11, rfl, e, k1, k2, k3, k4⟩ := hob
  have hst8 := (MapKept.stamped_iff es since).1 q8
  have hg1 : (getObj b).run P w = .ok (.mapIter (some r) since seen last) w := by simp [getObj, Sem.run, q4]
  have hg2 : (getObj r).run P w = .ok (.map es last) w := by simp [getObj, Sem.run, q6]
  have hfind : es.find? (fun y => y.born == e.born) = some e := by
    have key : ∀ l : List MapEntry, (l.map (·.born)).Nodup → e ∈ l → l.find? (fun y => y.born == e.born) = some e := by
      intro l
      induction l with
      | nil => intro _ h; cases h
      | cons y l ih =>
        intro hn he
        rw [List.map_cons, List.nodup_cons] at hn
        rcases List.mem_cons.1 he with rfl | he
        · simp
        · have : (y.born == e.born) = false := by
            cases hq : y.born == e.born with
            | false => rfl
            | true => exact absurd (by rw [beq_iff_eq.1 hq]; exact List.mem_map_of_mem he) hn.1
          rw [List.find?_cons, this]
          exact ih hn.2 he
    rw [← Array.find?_toList]
    exact key _ hst8.2.1 k1
  have hrun : (execOp a.eval o).run P w = .ok (.value (.tuple #[e.key, e.val])) w := by
    simp [execOp, ho, hv, q1, Instr.entry, hg1, hg2, k2, hfind, Result.andThen]
  have hfit := hF.put (U' := F.U) (w' := w) hs.b.size ⟨fun _ _ => rfl, fun _ _ => rfl⟩ hd hs.s (av := .tu [.fl v.1, v.2]) (v := .tuple #[e.key, e.val]) ⟨_, rfl, Rds.cons (by rw [k3]; exact .fl _) (Rds.cons k4 Rds.nil)⟩ [m] []
  unfold Oper.wp
  rw [hrun]
  exact hK _ _ ⟨by rw [put_defers]; exact hs.d, by rw [put_size]; exact hs.s, hs.b, _, hfit⟩
theorem rg_nextM {d : Nat} {ops : Array Oper} {o : Oper} {k : Nat} {L : List (Nat × AV)} {M : List (Nat × Ob)} {R : AS → Prop} {x : Operand} {m : Nat} {α : Type} [Inhabited α] {f : α → Value × DV} {l : List α} {cu : Option (Value × DV)}
    (ho : ops[k]? = some o) (hg : o.guard = none) (hop : o.op = .next x false) (hdst : o.dst = some d) (hd : dOk o N = true)
    (hx : (SS L M).ev x = .ow m) (hm : ln M m = .mi (l.map f) cu)
    (h0 : l = [] → RG P N w0 U0 ops (k + 1) (SS ((d, .tu [.fl (.bool false)]) :: L) M) R)
    (h1 : ∀ j, j < l.length → RG P N w0 U0 ops (k + 1) (SS ((d, .tu [.fl (.bool true), .fl (f (ix l j)).1, (f (ix l j)).2]) :: L) ((m, .mi ((l.eraseIdx j).map f) (some (f (ix l j)))) :: M)) R) : RG P N w0 U0 ops k (SS L M) R := by
  refine ⟨fun a w hst Q hQ => ?_⟩
  have hlt : k < ops.size := (Array.getElem?_eq_some_iff.1 ho).1
  have e1 : ((List.range (ops.size - k)).map (· + k)) = k :: ((List.range (ops.size - (k + 1))).map (· + (k + 1))) := by
    rw [show ops.size - k = (ops.size - (k + 1)) + 1 by omega, List.range_succ_eq_map]
    simp only [List.map_cons, Nat.zero_add, List.map_map, List.cons.injEq, true_and]
    apply List.map_congr_left
    intro x _
    show x + 1 + k = x + (k + 1)
    omega
  rw [e1, wpOps_cons]
  unfold wpOp
  rw [ho]
  simp only
  have hw : Region.wanted o (yielded ops a.tmps) = true := by simp [Region.wanted, hg]
  rw [if_pos hw]
  refine .inl ?_
  obtain ⟨F, hF⟩ := hst.f
  have hv : a.eval x = F.γ m := by have := hF.ev x; rw [hx] at this; exact this
  have hnm : (SS L M).n m = .mi (l.map f) cu := hm
  have hlive : ((SS L M).n m).live = true := by rw [hnm]; rfl
  have hob := hF.n m
  rw [hnm] at hob
  obtain ⟨b, r, es, c, since, seen, last, q1, q2, q3, q4, q5, q6, q7, q8, q9, q10, q11, q12⟩ := hob
  have hblt : b < w.heap.size := (Array.getElem?_eq_some_iff.1 q4).1
  have hst8 := (MapKept.stamped_iff es since).1 q8
  have hexec : ∀ v w', (Instr.next (a.eval x) false o.type).run P w = .ok v w' → (execOp a.eval o).run P w = .ok (.value v) w' := fun v w' h => by
    simp [execOp, hop, h, Result.andThen]
  rcases run_nextM (P := P) w o.type b r since last seen es c q4 q6 hst8.1 q9 with ⟨hl, hrun⟩ | ⟨j, e, w1, hj, hw1, hrun⟩
  · have hl0 : l = [] := by
      have := q11.1
      rw [hl] at this
      simpa using this.symm
    unfold Oper.wp
    rw [hexec _ _ (by rw [hv, q1]; exact hrun)]
    have hfit := hF.put (U' := F.U) (w' := w) hst.b.size ⟨fun _ _ => rfl, fun _ _ => rfl⟩ hd hst.s (av := .tu [.fl (.bool false)]) (v := .tuple #[.bool false]) ⟨_, rfl, Rds.cons (.fl _) Rds.nil⟩ [] []
    rw [ap_ss] at hfit
    show wpOps P ops Q (List.map (fun x => x + (k + 1)) (List.range (ops.size - (k + 1)))) (a.put o.dst (.tuple #[.bool false])) w
    rw [hdst] at hfit ⊢
    exact (h0 hl0).go _ w ⟨by rw [put_defers]; exact hst.d, by rw [put_size]; exact hst.s, hst.b, _, hfit⟩ Q hQ
  · have hjl : j < l.length := by
      have h2 := (List.getElem?_eq_some_iff.1 hj).1
      have := q11.1
      rw [List.length_map] at this
      omega
    have hmap : (l.map f)[j]? = some (f (ix l j)) := by rw [List.getElem?_map, ix_get hjl]; rfl
    obtain ⟨hk, hrd⟩ := q11.2 j e _ hj hmap
    have hF1 : Fits w0 U0 (SS L M) a w1 F := by
      rcases hw1 with rfl | rfl
      · exact hF
      · exact hF.up hst.b.size ⟨fun _ _ => rfl, fun _ _ => rfl⟩
    have hb1 : Below w0.heap.size w0 w1 := by
      rcases hw1 with rfl | rfl
      · exact hst.b
      · exact hst.b.drew
    have hh : w1.heap = w.heap := by rcases hw1 with rfl | rfl <;> rfl
    have hE1 : Ext w F.U w1 F.U := by rcases hw1 with rfl | rfl <;> exact Up.ext ⟨fun _ _ => rfl, fun _ _ => rfl⟩
    have hE2 : Ext w F.U (setBlock w1 b (.mapIter (some r) since (seen.push e.born) c)) F.U := by
      have := ext_setBlock (w := w1) (.mapIter (some r) since (seen.push e.born) c) q3
      exact ⟨fun b o u h1 h2 => by obtain ⟨h3, h4⟩ := hE1.c b o u h1 h2; exact this.c b o u h3 h4, fun r es c h1 h2 => by
        obtain ⟨h3, h4⟩ := hE1.m r es c h1 h2
        obtain ⟨h5, h6⟩ := this.m r es c (h3.trans h1) h2
        exact ⟨h5.trans h3, h6⟩⟩
    have hrne : r ≠ b := fun h => by rw [h, q3] at q7; omega
    unfold Oper.wp
    rw [hexec _ _ (by rw [hv, q1]; exact hrun)]
    have hput := hta_put hd hst.s (.tu [.fl (.bool true), .fl (f (ix l j)).1, (f (ix l j)).2]) (.tuple #[.bool true, e.key, e.val])
    have hfit := hF1.setobj (a' := a.put o.dst (.tuple #[.bool true, e.key, e.val])) (m := m) (b := b) hlive q5 q3 (obj := .mapIter (some r) since (seen.push e.born) c) (ob := .mi ((l.eraseIdx j).map f) (some (f (ix l j))))
      ⟨b, r, es, c, since, seen.push e.born, c, q1, q2, q3, setBlock_same _ (by rw [hh]; exact hblt), q5, by rw [setBlock_other _ hrne, hh]; exact q6, q7, q8, q10, q10, by
        rw [filter_push hst8.2.1 hj, Go.ChangeMaps.map_eraseIdx]
        exact ents_erase (q11.ext hE2), rfl, e, (List.mem_filter.1 (List.mem_of_getElem? hj)).1, by simp, hk, hrd.ext hE2⟩
      (tw := o.dst.map fun d => (d, .tu [.fl (.bool true), .fl (f (ix l j)).1, (f (ix l j)).2])) hput.1 (fun d v hdv => by
        obtain ⟨e1, e2⟩ := hput.2 d v hdv
        subst e1
        rw [e2]
        exact ⟨_, rfl, Rds.cons (.fl _) (Rds.cons (by rw [hk]; exact .fl _) (Rds.cons (hrd.ext hE2) Rds.nil))⟩) []
    rw [ap_ss] at hfit
    show wpOps P ops Q (List.map (fun x => x + (k + 1)) (List.range (ops.size - (k + 1)))) (a.put o.dst (.tuple #[.bool true, e.key, e.val])) (setBlock w1 b (.mapIter (some r) since (seen.push e.born) c))
    rw [hdst] at hfit ⊢
    exact (h1 j hjl).go _ _ ⟨by rw [put_defers]; exact hst.d, by rw [put_size]; exact hst.s, below_setBlock hb1 q2 _, _, hfit⟩ Q hQ
end
end Go.Proofs.YtldglchpaookiaaDoor.Av

namespace Go.Proofs.YtldglchpaookiaaDoor.Av
open Go Go.RowKit
section
variable {P : Program} {N : Nat} {w0 : World} {U0 : Nat → Nat}
end
end Go.Proofs.YtldglchpaookiaaDoor.Av
