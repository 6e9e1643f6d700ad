/- Rules: a range over a map that nobody writes meanwhile, in whatever order. Conditions: as each theorem names them. -/
import Derived.Test.YtobgdemhadlgnaaAvE
import Derived.Test.YtobgdemhadlgnaaAvS
import Derived.ChangeMaps4
set_option linter.unusedSimpArgs false
set_option linter.unusedVariables false
namespace Go.Proofs.Ytobgdemhadlgnaa.Av
open Go Go.RowKit
open Go.ChangeMaps (setBlock)
section
variable {P : Program} {N : Nat} {w0 : World} {U0 : Nat → Nat}
/-- 'next' of an iterator over a map, wherever the iterator's block lies -/
theorem run_nextM (w : World) (ty : TypeId) (b r since last : Nat) (seen : Array Nat) (es : Array MapEntry) (c : Nat) (hi : w.heap[b]? = some (.mapIter (some r) since seen last)) (hb : w.heap[r]? = some (.map es c))
    (hold : ∀ x ∈ es.toList, x.born < since) (hsc : since ≤ last) :
    (es.toList.filter (fun e => !seen.contains e.born) = [] ∧ (Instr.next (.pointer (some ⟨b, 0, none⟩)) false ty).run P w = .ok (.tuple #[.bool false]) w) ∨
    ∃ (j : Nat) (e : MapEntry) (w1 : World), (es.toList.filter (fun e => !seen.contains e.born))[j]? = some e ∧ (w1 = w ∨ w1 = w.drew) ∧ (Instr.next (.pointer (some ⟨b, 0, none⟩)) false ty).run P w = .ok (.tuple #[.bool true, e.key, e.val]) (setBlock w1 b (.mapIter (some r) since (seen.push e.born) c)) := by
  have htf : (!seen.isEmpty && !es.isEmpty && es.all (fun x => decide (x.born ≥ last))) = false := by
    cases he : es.isEmpty with
    | true => simp
    | false =>
      have hall : es.all (fun x => decide (x.born ≥ last)) = false := by
        rw [Bool.eq_false_iff]
        intro h
        rw [Array.all_eq_true_iff_forall_mem] at h
        have h0 : 0 < es.size := by
          rcases Nat.eq_zero_or_pos es.size with h0 | h0
          · simp [Array.isEmpty, h0] at he
          · exact h0
        have hm : es[0] ∈ es := Array.getElem_mem h0
        have h1 := h _ hm
        have h2 := hold es[0] (by simp)
        simp at h1
        omega
      simp [hall]
  simp only [Instr.next, getObj, Sem.run_bind, Sem.run, hi, hb, Result.andThen, htf, Bool.false_eq_true, if_false]
  have hmem : ∀ x ∈ (Array.filter (fun e => !seen.contains e.born) es).toList, x.born < since := fun x hx => hold x (by simp at hx ⊢; exact hx.1)
  have hL : es.toList.filter (fun e => !seen.contains e.born) = (Array.filter (fun e => !seen.contains e.born) es).toList := by simp
  rw [hL]
  generalize Array.filter (fun e => !seen.contains e.born) es = L at hmem ⊢
  have e1 : L.filter (fun x => decide (x.born < since)) = L := Array.filter_eq_self.2 (fun x hx => by simpa using hmem x (by simpa using hx))
  have e2 : L.filter (fun x => decide (x.born ≥ since)) = #[] := by
    rw [Array.filter_eq_empty_iff]
    intro x hx
    have := hmem x (by simpa using hx)
    simp
    omega
  simp only [e1, e2, Array.append_empty]
  by_cases h0 : L.size = 0
  · left
    have : L = #[] := Array.eq_empty_of_size_eq_zero h0
    subst this
    refine ⟨rfl, ?_⟩
    simp [choose, Sem.run, Question.forced]
  · right
    have hne : L.isEmpty = false := by simp [Array.isEmpty, h0]
    simp only [hne, Bool.false_eq_true, if_false, Array.empty_append, Array.size_map]
    have hch : ∃ (j : Nat) (w1 : World), j < L.size ∧ (w1 = w ∨ w1 = w.drew) ∧ (choose (Question.mapNext L.size)).run P w = .ok j w1 := by
      by_cases hf : L.size ≤ 1
      · exact ⟨0, w, by omega, .inl rfl, by simp [choose, Sem.run, Question.forced, hf]⟩
      · exact ⟨_, w.drew, Nat.mod_lt _ (by omega), .inr rfl, by
          simp only [choose, Sem.run, Question.forced, decide_eq_true_eq, hf, if_false, Question.cut]
          rfl⟩
    obtain ⟨j, w1, hj, hal, hrun⟩ := hch
    refine ⟨j, L[j], w1, by rw [Array.getElem?_toList]; exact Array.getElem?_eq_getElem hj, hal, ?_⟩
    have hi1 : w1.heap[b]? = some (.mapIter (some r) since seen last) := by rcases hal with rfl | rfl <;> exact hi
    have hset : ∀ o', (setObj b o').run P w1 = .ok () (setBlock w1 b o') := fun o' => by simp [setObj, Sem.run, hi1, setBlock]
    simp only [hrun, Array.getElem?_map, Array.getElem?_eq_getElem hj, Option.map_some, Sem.run_bind, hset, Result.andThen]
    rfl
/-- the map is handed to an iterator -/
theorem op_rangeM {o : Oper} {σ : AS} {t kt et : TypeId} {x : Operand} (m : Nat) (ho : o.op = .range t x) (hu : P.underlying t = some (.map kt et)) {ents : List (Value × DV)} (hx : σ.ev x = .d (.mp ents)) (hd : dOk o N = true) : OpS P N w0 U0 o σ ⟨o.dst.map fun d => (d, .ow m), [(m, .mi ents none)], [], [m]⟩ := by
  intro σ' hok a w hs K Q hK
  obtain ⟨F, hF⟩ := hs.f
  have hvx := ev_get hok hF (x := x) (by simp [ho, Op.operands]) hx
  generalize hv : a.eval x = v at hvx
  cases hvx with
  | mp r es c ents hb hu2 hl hk hv2 hst =>
  have hlt : r < w.heap.size := (Array.getElem?_eq_some_iff.1 hb).1
  have hents : Ents w F.U es.toList ents := ⟨by simpa using hl, fun i e x h1 h2 => ⟨hk i e x h1 h2, hv2 i e x h1 h2⟩⟩
  obtain ⟨U', hU'⟩ : ∃ U' : Nat → Nat, U' = fun b => if b = w.heap.size then 0 else F.U b := ⟨_, rfl⟩
  have hU1 : U' w.heap.size = 0 := by rw [hU']; simp
  have hU2 : ∀ b, b < w.heap.size → U' b = F.U b := fun b hb => by rw [hU']; simp; intro h; omega
  have hE : Ext w F.U (w.alloc (.mapIter (some r) c #[] c)) U' := Up.ext ⟨fun b hlt => Below.heap_alloc w _ b hlt, hU2⟩
  have hnew : (w.alloc (.mapIter (some r) c #[] c)).heap[w.heap.size]? = some (.mapIter (some r) c #[] c) := Go.heap_alloc_new w _
  have hfit := hF.name (kill := none) (bo := some w.heap.size) (γv := .pointer (some ⟨w.heap.size, 0, none⟩)) (U' := U') (v := .pointer (some ⟨w.heap.size, 0, none⟩)) (av := .ow m) (m := m) (ob := .mi ents none) (hok.f m (by simp)) hE (fun b hb => hU2 b (by have := hs.b.size; omega)) (fun k b hl _ hb hlt => ⟨Below.heap_alloc w _ b hlt, hU2 b hlt⟩)
      (fun k b hl _ hb e => by have := live_lt hF hl hb; injection e with e; omega)
      (by
        refine ⟨w.heap.size, r, es, c, c, #[], c, by show (if m = m then _ else _) = _; rw [if_pos rfl], hs.b.size, hU1, hnew, fun b => ?_, ?_, ?_, hst, Nat.le_refl _, Nat.le_refl _, ?_, trivial⟩
        · show (if m = m then some w.heap.size = some b else _) ↔ _; rw [if_pos rfl]; exact ⟨fun h => by injection h with h; exact h.symm, fun h => by rw [h]⟩
        · rw [Below.heap_alloc w _ r hlt]; exact hb
        · show 0 < U' r; rw [hU2 r hlt]; exact hu2
        · have : es.toList.filter (fun e => !(#[] : Array Nat).contains e.born) = es.toList := by
            rw [List.filter_eq_self]; intro a _; simp
          rw [this]; exact hents.ext hE)
      hd hs.s (by show _ = (if m = m then _ else _); rw [if_pos rfl]) []
  have hrun : (execOp a.eval o).run P w = .ok (.value (.pointer (some ⟨w.heap.size, 0, none⟩))) (w.alloc (.mapIter (some r) c #[] c)) := by
    have hg := MapKept.run_getObj_map (P := P) hb
    simp [execOp, ho, hv, Instr.range, run_underlying hu, hg, newObj, Sem.run]
  unfold Oper.wp
  rw [hrun]
  exact hK _ _ ⟨by rw [put_defers]; exact hs.d, by rw [put_size]; exact hs.s, hs.b.alloc hs.b.size _, _, hfit⟩
theorem ents_erase {w : World} {U : Nat → Nat} : ∀ {es : List MapEntry} {xs : List (Value × DV)} {j : Nat}, Ents w U es xs → Ents w U (es.eraseIdx j) (xs.eraseIdx j) := by
  intro es xs j h
  refine ⟨?_, fun i e x h1 h2 => ?_⟩
  · rw [List.length_eraseIdx, List.length_eraseIdx, h.1]
  · rw [List.getElem?_eraseIdx] at h1 h2
    split at h1
    · rw [if_pos ‹_›] at h2; exact h.2 i e x h1 h2
    · rw [if_neg ‹_›] at h2; exact h.2 (i + 1) e x h1 h2
theorem filter_push {es : List MapEntry} {seen : Array Nat} {j : Nat} {e : MapEntry} (hn : (es.map (·.born)).Nodup) (he : (es.filter fun e => !seen.contains e.born)[j]? = some e) :
    es.filter (fun x => !(seen.push e.born).contains x.born) = (es.filter fun x => !seen.contains x.born).eraseIdx j := by
  have h1 : es.filter (fun x => !(seen.push e.born).contains x.born) = (es.filter fun x => !seen.contains x.born).filter fun x => !(x.born == e.born) := by
    rw [List.filter_filter]
    refine List.filter_congr fun x _ => ?_
    rw [show (seen.push e.born).contains x.born = (seen.contains x.born || x.born == e.born) from by rw [Array.contains_push]]
    cases seen.contains x.born <;> cases x.born == e.born <;> rfl
  rw [h1]
  have hn2 : ((es.filter fun x => !seen.contains x.born).map (·.born)).Nodup := hn.sublist (List.Sublist.map _ List.filter_sublist)
  clear h1 hn
  generalize (es.filter fun x => !seen.contains x.born) = l at he hn2
  induction l generalizing j with
  | nil => simp at he
  | cons x l ih =>
    rw [List.map_cons, List.nodup_cons] at hn2
    cases j with
    | zero =>
      simp only [List.getElem?_cons_zero, Option.some.injEq] at he
      subst he
      simp only [List.filter_cons, beq_self_eq_true, Bool.not_true, Bool.false_eq_true, if_false, List.eraseIdx_zero, List.tail_cons]
      refine List.filter_eq_self.2 fun y hy => ?_
      have : y.born ≠ x.born := fun h => hn2.1 (by rw [← h]; exact List.mem_map_of_mem hy)
      simpa using this
    | succ j =>
      simp only [List.getElem?_cons_succ] at he
      have hx : x.born ≠ e.born := fun h => hn2.1 (by rw [h]; exact List.mem_map_of_mem (List.mem_of_getElem? he))
      have : (!(x.born == e.born)) = true := by simpa using hx
      simp only [List.filter_cons, this, if_true, List.eraseIdx_cons_succ]
      rw [ih he hn2.2]
/-- the entry that came last, read again -/
theorem op_entry {o : Oper} {σ : AS} {x : Operand} (ho : o.op = .entry x) {m : Nat} {left : List (Value × DV)} {v : Value × DV} (hx : σ.ev x = .ow m) (hm : σ.n m = .mi left (some v)) (hd : dOk o N = true) :
    OpS P N w0 U0 o σ ⟨o.dst.map fun d => (d, .tu [.fl v.1, v.2]), [], [m], []⟩ := by
  intro σ' hok a w hs K Q hK
  obtain ⟨F, hF⟩ := hs.f
  have hv : a.eval x = F.γ m := ev_get hok hF (x := x) (by simp [ho, Op.operands]) hx
  have hm' : σ'.n m = .mi left (some v) := by rw [hok.n m (by simp)]; exact hm
  have hob := hF.n m
  rw [hm'] at hob
  obtain ⟨b, r, es, c, since, seen, last, q1, q2, q3, q4, q5, q6, q7, q8, q9, q10, q11, rfl, e, k1, k2, k3, k4⟩ := hob
  have hst8 := (MapKept.stamped_iff es since).1 q8
  have hg1 : (getObj b).run P w = .ok (.mapIter (some r) since seen last) w := by simp [getObj, Sem.run, q4]
  have hg2 : (getObj r).run P w = .ok (.map es last) w := by simp [getObj, Sem.run, q6]
  have hfind : es.find? (fun y => y.born == e.born) = some e := by
    have key : ∀ l : List MapEntry, (l.map (·.born)).Nodup → e ∈ l → l.find? (fun y => y.born == e.born) = some e := by
      intro l
      induction l with
      | nil => intro _ h; cases h
      | cons y l ih =>
        intro hn he
        rw [List.map_cons, List.nodup_cons] at hn
        rcases List.mem_cons.1 he with rfl | he
        · simp
        · have : (y.born == e.born) = false := by
            cases hq : y.born == e.born with
            | false => rfl
            | true => exact absurd (by rw [beq_iff_eq.1 hq]; exact List.mem_map_of_mem he) hn.1
          rw [List.find?_cons, this]
          exact ih hn.2 he
    rw [← Array.find?_toList]
    exact key _ hst8.2.1 k1
  have hrun : (execOp a.eval o).run P w = .ok (.value (.tuple #[e.key, e.val])) w := by
    simp [execOp, ho, hv, q1, Instr.entry, hg1, hg2, k2, hfind, Result.andThen]
  have hfit := hF.put (U' := F.U) (w' := w) hs.b.size ⟨fun _ _ => rfl, fun _ _ => rfl⟩ hd hs.s (av := .tu [.fl v.1, v.2]) (v := .tuple #[e.key, e.val]) ⟨_, rfl, Rds.cons (by rw [k3]; exact .fl _) (Rds.cons k4 Rds.nil)⟩ [m] []
  unfold Oper.wp
  rw [hrun]
  exact hK _ _ ⟨by rw [put_defers]; exact hs.d, by rw [put_size]; exact hs.s, hs.b, _, hfit⟩
/-- one step of a range over a map: whichever entry is left may come next -/
theorem rg_nextM {d : Nat} {ops : Array Oper} {o : Oper} {k : Nat} {L : List (Nat × AV)} {M : List (Nat × Ob)} {R : AS → Prop} {x : Operand} {m : Nat} {α : Type} [Inhabited α] {f : α → Value × DV} {l : List α} {cu : Option (Value × DV)}
    (ho : ops[k]? = some o) (hg : o.guard = none) (hop : o.op = .next x false) (hdst : o.dst = some d) (hd : dOk o N = true)
    (hx : (SS L M).ev x = .ow m) (hm : ln M m = .mi (l.map f) cu)
    (h0 : l = [] → RG P N w0 U0 ops (k + 1) (SS ((d, .tu [.fl (.bool false)]) :: L) M) R)
    (h1 : ∀ j, j < l.length → RG P N w0 U0 ops (k + 1) (SS ((d, .tu [.fl (.bool true), .fl (f (ix l j)).1, (f (ix l j)).2]) :: L) ((m, .mi ((l.eraseIdx j).map f) (some (f (ix l j)))) :: M)) R) : RG P N w0 U0 ops k (SS L M) R := by
  refine ⟨fun a w hst Q hQ => ?_⟩
  have hlt : k < ops.size := (Array.getElem?_eq_some_iff.1 ho).1
  have e1 : ((List.range (ops.size - k)).map (· + k)) = k :: ((List.range (ops.size - (k + 1))).map (· + (k + 1))) := by
    rw [show ops.size - k = (ops.size - (k + 1)) + 1 by omega, List.range_succ_eq_map]
    simp only [List.map_cons, Nat.zero_add, List.map_map, List.cons.injEq, true_and]
    apply List.map_congr_left
    intro x _
    show x + 1 + k = x + (k + 1)
    omega
  rw [e1, wpOps_cons]
  unfold wpOp
  rw [ho]
  simp only
  have hw : Region.wanted o (yielded ops a.tmps) = true := by simp [Region.wanted, hg]
  rw [if_pos hw]
  refine .inl ?_
  obtain ⟨F, hF⟩ := hst.f
  have hv : a.eval x = F.γ m := by have := hF.ev x; rw [hx] at this; exact this
  have hnm : (SS L M).n m = .mi (l.map f) cu := hm
  have hlive : ((SS L M).n m).live = true := by rw [hnm]; rfl
  have hob := hF.n m
  rw [hnm] at hob
  obtain ⟨b, r, es, c, since, seen, last, q1, q2, q3, q4, q5, q6, q7, q8, q9, q10, q11, q12⟩ := hob
  have hblt : b < w.heap.size := (Array.getElem?_eq_some_iff.1 q4).1
  have hst8 := (MapKept.stamped_iff es since).1 q8
  have hexec : ∀ v w', (Instr.next (a.eval x) false o.type).run P w = .ok v w' → (execOp a.eval o).run P w = .ok (.value v) w' := fun v w' h => by
    simp [execOp, hop, h, Result.andThen]
  rcases run_nextM (P := P) w o.type b r since last seen es c q4 q6 hst8.1 q9 with ⟨hl, hrun⟩ | ⟨j, e, w1, hj, hw1, hrun⟩
  · have hl0 : l = [] := by
      have := q11.1
      rw [hl] at this
      simpa using this.symm
    unfold Oper.wp
    rw [hexec _ _ (by rw [hv, q1]; exact hrun)]
    have hfit := hF.put (U' := F.U) (w' := w) hst.b.size ⟨fun _ _ => rfl, fun _ _ => rfl⟩ hd hst.s (av := .tu [.fl (.bool false)]) (v := .tuple #[.bool false]) ⟨_, rfl, Rds.cons (.fl _) Rds.nil⟩ [] []
    rw [ap_ss] at hfit
    show wpOps P ops Q (List.map (fun x => x + (k + 1)) (List.range (ops.size - (k + 1)))) (a.put o.dst (.tuple #[.bool false])) w
    rw [hdst] at hfit ⊢
    exact (h0 hl0).go _ w ⟨by rw [put_defers]; exact hst.d, by rw [put_size]; exact hst.s, hst.b, _, hfit⟩ Q hQ
  · have hjl : j < l.length := by
      have h2 := (List.getElem?_eq_some_iff.1 hj).1
      have := q11.1
      rw [List.length_map] at this
      omega
    have hmap : (l.map f)[j]? = some (f (ix l j)) := by rw [List.getElem?_map, ix_get hjl]; rfl
    obtain ⟨hk, hrd⟩ := q11.2 j e _ hj hmap
    have hF1 : Fits w0 U0 (SS L M) a w1 F := by
      rcases hw1 with rfl | rfl
      · exact hF
      · exact hF.up hst.b.size ⟨fun _ _ => rfl, fun _ _ => rfl⟩
    have hb1 : Below w0.heap.size w0 w1 := by
      rcases hw1 with rfl | rfl
      · exact hst.b
      · exact hst.b.drew
    have hh : w1.heap = w.heap := by rcases hw1 with rfl | rfl <;> rfl
    have hE1 : Ext w F.U w1 F.U := by rcases hw1 with rfl | rfl <;> exact Up.ext ⟨fun _ _ => rfl, fun _ _ => rfl⟩
    have hE2 : Ext w F.U (setBlock w1 b (.mapIter (some r) since (seen.push e.born) c)) F.U := by
      have := ext_setBlock (w := w1) (.mapIter (some r) since (seen.push e.born) c) q3
      exact ⟨fun b o u h1 h2 => by obtain ⟨h3, h4⟩ := hE1.c b o u h1 h2; exact this.c b o u h3 h4, fun r es c h1 h2 => by
        obtain ⟨h3, h4⟩ := hE1.m r es c h1 h2
        obtain ⟨h5, h6⟩ := this.m r es c (h3.trans h1) h2
        exact ⟨h5.trans h3, h6⟩⟩
    have hrne : r ≠ b := fun h => by rw [h, q3] at q7; omega
    unfold Oper.wp
    rw [hexec _ _ (by rw [hv, q1]; exact hrun)]
    have hput := hta_put hd hst.s (.tu [.fl (.bool true), .fl (f (ix l j)).1, (f (ix l j)).2]) (.tuple #[.bool true, e.key, e.val])
    have hfit := hF1.setobj (a' := a.put o.dst (.tuple #[.bool true, e.key, e.val])) (m := m) (b := b) hlive q5 q3 (obj := .mapIter (some r) since (seen.push e.born) c) (ob := .mi ((l.eraseIdx j).map f) (some (f (ix l j))))
      ⟨b, r, es, c, since, seen.push e.born, c, q1, q2, q3, setBlock_same _ (by rw [hh]; exact hblt), q5, by rw [setBlock_other _ hrne, hh]; exact q6, q7, q8, q10, q10, by
        rw [filter_push hst8.2.1 hj, Go.ChangeMaps.map_eraseIdx]
        exact ents_erase (q11.ext hE2), rfl, e, (List.mem_filter.1 (List.mem_of_getElem? hj)).1, by simp, hk, hrd.ext hE2⟩
      (tw := o.dst.map fun d => (d, .tu [.fl (.bool true), .fl (f (ix l j)).1, (f (ix l j)).2])) hput.1 (fun d v hdv => by
        obtain ⟨e1, e2⟩ := hput.2 d v hdv
        subst e1
        rw [e2]
        exact ⟨_, rfl, Rds.cons (.fl _) (Rds.cons (by rw [hk]; exact .fl _) (Rds.cons (hrd.ext hE2) Rds.nil))⟩) []
    rw [ap_ss] at hfit
    show wpOps P ops Q (List.map (fun x => x + (k + 1)) (List.range (ops.size - (k + 1)))) (a.put o.dst (.tuple #[.bool true, e.key, e.val])) (setBlock w1 b (.mapIter (some r) since (seen.push e.born) c))
    rw [hdst] at hfit ⊢
    exact (h1 j hjl).go _ _ ⟨by rw [put_defers]; exact hst.d, by rw [put_size]; exact hst.s, below_setBlock hb1 q2 _, _, hfit⟩ Q hQ
/-- a structure of one field, built out of an own row: it owns the row -/
theorem op_build1 {o : Oper} {σ : AS} {t : TypeId} {x : Operand} (m3 : Nat) (ho : o.op = .build t #[(0, x)]) {fs : Array Field} (hu : P.underlying t = some (.struct fs)) {bb : Nat} (hi : TI P t (.agg #[.slice none 0 0]) 1 bb) (hfs : (fs.all fun f => (P.info? f.type).isSome) = true) (hpl : placesOf P fs = #[(0, 1)])
    {α : Type} {fα : α → List DV} {l : List α} {m e z : Nat} (hx : σ.ev x = .ow m) (hm : σ.n m = .tr e z (tD fα l)) (hd : dOk o N = true) :
    OpS P N w0 U0 o σ ⟨o.dst.map fun d => (d, .ow m3), (m3, .sv [.ow e z (l.map fα)]) :: [m].map (fun q => (q, Ob.no)), [m], [m3]⟩ := by
  intro σ' hok a w hs K Q hK
  obtain ⟨F, hF⟩ := hs.f
  have hv : a.eval x = F.γ m := ev_get hok hF (x := x) (by simp [ho, Op.operands]) hx
  have hm' : σ'.n m = .tr e z (tD fα l) := by rw [hok.n m (by simp)]; exact hm
  have hlive : (σ'.n m).live = true := by rw [hm']; rfl
  have hob := hF.n m
  rw [hm'] at hob
  obtain ⟨xs, T, g1, g2, g3, g4, g5⟩ := hob
  have hlen : (tD fα l).length = (l.map fα).length := by simp [tD]
  rw [hlen] at g1
  rw [tD_flat] at g2
  obtain ⟨hrc, hno⟩ := Tcs.noDv g2
  have hcells : (F.γ m).cells = #[F.γ m] ∧ (F.γ m).oneCell' = true := by
    rcases g1.2 with ⟨h0, _⟩ | ⟨g, cap, cur, h1, _⟩
    · rw [h0]; exact ⟨rfl, rfl⟩
    · rw [h1]; exact ⟨rfl, rfl⟩
  obtain ⟨i, q1, q2, q3, q4⟩ := hi
  have hzv : (zeroValue t).run P w = .ok (.agg #[.slice none 0 0]) w := by simp [zeroValue, typeInfo, q1, q2]
  have hplr := run_places (P := P) (fs := fs) (fun f hf => Array.all_eq_true_iff_forall_mem.1 hfs f hf) w
  rw [hpl] at hplr
  have hex : (execOp a.eval o).run P w = .ok (.value (.agg #[F.γ m])) w := by
    unfold execOp
    simp only [ho, Instr.build, Sem.run_bind, hzv, Result.andThen_ok, run_underlying hu]
    rw [hplr]
    simp only [Result.andThen_ok]
    have e1 : Instr.fill (fun i => (#[(0, 1)] : Array (Nat × Nat))[i]?) (Value.agg #[.slice none 0 0]).cells ((#[(0, x)].map fun x => match x with | (i, x) => (i, a.eval x)).toList) = some #[F.γ m] := by
      rw [Array.toList_map]
      show Instr.fill _ _ [(0, a.eval x)] = _
      rw [hv]
      unfold Instr.fill
      rw [show ((#[(0, 1)] : Array (Nat × Nat))[0]?) = some (0, 1) from rfl, hcells.1]
      rfl
    rw [e1]
    rfl
  unfold Oper.wp
  rw [hex]
  have hfit := hF.make (m := m3) (ob := .sv [.ow e z (l.map fα)]) (ks := [m]) (γv := .agg #[F.γ m]) (βv := none) (Sm := fun b => (F.γ m).ownBlock = some b) (U' := F.U) (w' := w) (a' := a.put o.dst (.agg #[F.γ m])) (tw := o.dst.map fun d => (d, .ow m3)) (hok.f m3 (by simp)) Ext.rfl (fun _ _ => rfl) (fun _ _ _ _ _ _ => ⟨rfl, rfl⟩) (fun b hb => .inr ⟨m, by simp, hlive, (g5 b).2 (.inl hb)⟩)
    ⟨#[F.γ m], fun k b => k = 0 ∧ (F.γ m).ownBlock = some b, by simp only [↓reduceIte], by
      refine ⟨rfl, fun k u c h1 h2 => ?_, fun u hu => ?_, fun k k' b h1 h2 => h1.1.trans h2.1.symm, fun k b h1 => by rw [h1.1]; show 0 < 1; omega⟩
      · cases k with
        | succ k => simp at h1
        | zero =>
          simp only [List.getElem?_cons_zero, Option.some.injEq] at h1 h2
          have h1' : F.γ m = u := by simpa using h1
          subst h1' h2
          exact ⟨xs, g1, by simpa using hrc, fun r hr => by
            obtain ⟨y, hy, rfl⟩ := List.mem_map.1 hr
            have := g3 ((fα y).map .dv) (List.mem_map.2 ⟨fα y, List.mem_map.2 ⟨y, hy, rfl⟩, rfl⟩)
            simpa using this, fun b => ⟨fun h => h.2, fun h => ⟨rfl, h⟩⟩, fun b hb => (g4 b hb).1⟩
      · have : u = F.γ m := by simpa using hu
        rw [this]; exact hcells.2, fun b => by simp⟩
    (hta_put hd hs.s (.ow m3) _).1 (fun d v h => by
      obtain ⟨rfl, h3⟩ := (hta_put hd hs.s (.ow m3) (.agg #[F.γ m])).2 d v h
      rw [h3]; exact (if_pos rfl).symm) [m] [m3]
  exact hK _ _ ⟨by rw [put_defers]; exact hs.d, by rw [put_size]; exact hs.s, hs.b, _, hfit⟩
/-- an empty slice as a row that only grows and may be read -/
theorem op_slice0w {o : Oper} {σ : AS} {t : TypeId} (m : Nat) (ho : o.op = .buildSlice t 0 #[]) {e : TypeId} {zv : Value} {sz b : Nat} (ht : P.underlying t = some (.slice e)) (hi : TI P e zv sz b) (hd : dOk o N = true) : OpS P N w0 U0 o σ ⟨o.dst.map fun d => (d, .ow m), (m, .ow e sz []) :: ([] : List Nat).map (fun q => (q, Ob.no)), [], [m]⟩ := by
  obtain ⟨i, i1, i2, i3, i4⟩ := hi
  subst i3
  intro σ' hok a w hst K Q hK
  obtain ⟨F, hF⟩ := hst.f
  have hex : (execOp a.eval o).run P w = .ok (.value (.slice (some ⟨w.heap.size, 0, none⟩) 0 0)) (w.alloc (.cells #[] e)) := by
    have hbig : ¬ (0 * i.size > 2 ^ 24) := by omega
    unfold execOp
    simp only [ho, Instr.buildSlice, Sem.run_bind, run_underlying ht, Result.andThen_ok, run_sizeOf' i1, if_neg hbig, Nat.zero_mul, if_true, Sem.run_pure]
    simp [Instr.fill, newRow, newObj, Sem.run]
    congr 2
    apply Array.ext'
    simp
  unfold Oper.wp
  rw [hex]
  have hU2 : ∀ b, b < w.heap.size → (fun b => if b = w.heap.size then 0 else F.U b) b = F.U b := fun b hb => by simp; intro h; omega
  have hE : Ext w F.U (w.alloc (.cells #[] e)) (fun b => if b = w.heap.size then 0 else F.U b) := Up.ext ⟨fun b hlt => Below.heap_alloc w _ b hlt, hU2⟩
  have hγγ : ∀ v : Value, (fun k => if k = m then v else F.γ k) m = v := fun v => if_pos rfl
  have hfit := hF.make (m := m) (ob := .ow e i.size []) (ks := []) (γv := .slice (some ⟨w.heap.size, 0, none⟩) 0 0) (βv := none) (Sm := fun b => b = w.heap.size) (U' := fun b => if b = w.heap.size then 0 else F.U b) (w' := w.alloc (.cells #[] e)) (a' := a.put o.dst (.slice (some ⟨w.heap.size, 0, none⟩) 0 0)) (tw := o.dst.map fun d => (d, .ow m)) (hok.f m (by simp)) hE (fun b hb => hU2 b (by have := hst.b.size; omega)) (fun k b _ _ _ hlt => ⟨Below.heap_alloc w _ b hlt, hU2 b hlt⟩) (fun b h => .inl (by omega))
    ⟨[], by
      simp only [↓reduceIte]
      exact ⟨by simp, .inr ⟨w.heap.size, 0, #[], rfl, hst.b.size, Go.heap_alloc_new w _, Nat.le_refl _, by unfold maxLen; omega, by simp, by simp⟩⟩, ⟨Rds.nil, fun u hu => (by cases hu)⟩, (fun r hr => by cases hr), fun b => by
      simp only [↓reduceIte]
      constructor
      · intro h; rw [h]; rfl
      · intro h; injection h with h; exact h.symm, fun b hb => by
      simp only [↓reduceIte] at hb ⊢
      subst hb
      simp⟩
    (hta_put hd hst.s (.ow m) _).1 (fun d v h => by
      obtain ⟨rfl, h3⟩ := (hta_put hd hst.s (.ow m) (.slice (some ⟨w.heap.size, 0, none⟩) 0 0)).2 d v h
      rw [h3]; exact (hγγ _).symm) [] [m]
  exact hK _ _ ⟨by rw [put_defers]; exact hst.d, by rw [put_size]; exact hst.s, hst.b.alloc hst.b.size _, _, hfit⟩
end
end Go.Proofs.Ytobgdemhadlgnaa.Av

namespace Go.Proofs.Ytobgdemhadlgnaa.Av
open Go Go.RowKit
section
variable {P : Program} {N : Nat} {w0 : World} {U0 : Nat → Nat}
/-- append, the exact bound -/
theorem s_appendB {o : Oper} {σ : AS} {t e : TypeId} {s x : Operand} (m : Nat) (ho : o.op = .call { callee := .builtin .append, args := #[s, x], argTypes := #[t, t] })
    {zv : Value} {sz b : Nat} (ht : P.underlying t = some (.slice e)) (hi : TI P e zv sz b) (hzs : Nat.beq zv.cells.size sz = true) (hz0 : Nat.blt 0 sz = true) {m0 : Nat} {α : Type} {f : α → List DV} {l l' : List α} {rn : List Nat} {av : AV}
    (hs : σ.ev s = .ow m0) (hm : σ.n m0 = .ow e sz (l.map f)) (hx : σ.ev x = av) (hxv : AvD σ av (.sl sz (l'.map f)) rn) (hbytes : (l.length + l'.length) * b ≤ 140737488355328 ∧ l.length + l'.length ≤ 9223372036854775807) (hd : dOk o N = true) :
    OpS P N w0 U0 o σ ⟨o.dst.map fun d => (d, .ow m), [(m, .ow e sz ((l ++ l').map f)), (m0, .no)], m0 :: rn, [m]⟩ := by
  obtain ⟨i, g1, g2, g3, g4⟩ := hi
  subst g3
  subst g4
  obtain ⟨h2, h1⟩ := hbytes
  have := op_append (P := P) (N := N) (w0 := w0) (U0 := U0) m ho ht g1 g2 hzs hz0 hs hm (by rw [hx]; exact hxv) (by simp only [List.length_map]; omega) (by simp only [List.length_map]; omega) hd
  rwa [← List.map_append] at this
end
end Go.Proofs.Ytobgdemhadlgnaa.Av
