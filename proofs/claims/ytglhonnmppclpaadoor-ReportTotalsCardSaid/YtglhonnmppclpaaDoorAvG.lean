/- strings.Builder: a box of the call's own with a pointer to itself and an own row of bytes. Conditions: as each theorem names them. -/
import Derived.Test.YtglhonnmppclpaaDoorAvF
import Derived.Lib.Builder
import Derived.Lib.UnsafeStr
set_option linter.unusedSimpArgs false
set_option linter.unusedVariables false
namespace Go.Proofs.YtglhonnmppclpaaDoor.Av
open Go Go.RowKit
theorem two_of {α : Type} {l : List α} (h : l.length = 2) : ∃ a b, l = [a, b] := by
  match l, h with
  | [a, b], _ => exact ⟨a, b, rfl⟩
theorem below_bare {w w' : World} (h1 : w'.os = w.os) (h2 : w'.tape = w.tape) (h3 : w'.output = w.output) : Below 0 (bare w) w' := ⟨h1, h2, h3, Nat.zero_le _, fun k hk => by have : k < 0 := hk; omega⟩
theorem cc_used_of {P : Program} {f : FuncId} {ty e : TypeId} {rows : List (List DV)} (h : ∀ b (w : World), w.cell? ⟨b, 0, none⟩ = some (.pointer (some ⟨b, 0, none⟩)) → Calls P f #[.pointer (some ⟨b, 0, none⟩)] w fun ex w' => ex = .returned (.tuple #[]) ∧ w' = w) (v : Value) :
    CtrX P f [.q 0 v] [.bt ty [.dv (.fl v), .ow e 1 rows]] [.bt ty [.dv (.fl v), .ow e 1 rows]] (.tu []) := by
  intro vals F w hl hv hob hdis
  obtain ⟨u, rfl⟩ : ∃ u, vals = [u] := List.length_eq_one_iff.1 (by simpa using hl)
  obtain ⟨h0, b, hb, hp⟩ := hv 0 u _ rfl rfl
  subst h0
  have hR := hob 0 _ rfl
  obtain ⟨b', vs, T, k1, k2, k3, k4, k5, k6, k7⟩ := hR
  rw [hb] at k1; injection k1 with k1; subst k1
  obtain ⟨u0, u1, hvs⟩ := two_of (l := vs.toList) (by rw [k5.l]; rfl)
  have hc0 := (k5.c 0 u0 _ (by rw [hvs]; rfl) rfl).1
  have he := rd_fl hc0
  have hcell : w.cell? ⟨b, 0, none⟩ = some (.pointer (some ⟨b, 0, none⟩)) := by
    rw [cell_of_row w b 0 vs ty (0, 0) k4, ← hp, ← he]
    rw [← Array.getElem?_toList, hvs]; rfl
  rw [hp]
  refine Calls.mono (h b w hcell) ?_
  rintro ex w' ⟨rfl, rfl⟩
  exact ⟨_, F.U, F.S, rfl, below_bare rfl rfl rfl, fun g _ _ => ⟨rfl, rfl⟩, fun i g hi hg => .inl ⟨i, hi, hg⟩, hdis, fun i o ho => by
    rw [← hp] at ho; exact hob i o ho, ⟨#[], rfl, Rds.nil⟩⟩
theorem cc_fresh_of {P : Program} {f : FuncId} {ty e : TypeId} {rows : List (List DV)} (h : ∀ b (w : World), w.cell? ⟨b, 0, none⟩ = some (.pointer none) → w.shape? b = some (ty, 2) → w.frozen? ⟨b, 0, none⟩ = false → Calls P f #[.pointer (some ⟨b, 0, none⟩)] w fun ex w' => ex = .returned (.tuple #[]) ∧ w' = w.setCell ⟨b, 0, none⟩ (.pointer (some ⟨b, 0, none⟩))) (v : Value) :
    CtrX P f [.q 0 v] [.bt ty [.dv (.fl (.pointer none)), .ow e 1 rows]] [.bt ty [.dv (.fl v), .ow e 1 rows]] (.tu []) := by
  intro vals F w hl hv hob hdis
  obtain ⟨u, rfl⟩ : ∃ u, vals = [u] := List.length_eq_one_iff.1 (by simpa using hl)
  obtain ⟨h0, b, hb, hp⟩ := hv 0 u _ rfl rfl
  subst h0
  have hR := hob 0 _ rfl
  obtain ⟨b', vs, T, k1, k2, k3, k4, k5, k6, k7⟩ := hR
  rw [hb] at k1; injection k1 with k1; subst k1
  obtain ⟨u0, u1, hvs⟩ := two_of (l := vs.toList) (by rw [k5.l]; rfl)
  obtain ⟨vl⟩ := vs
  have hvs' : vl = [u0, u1] := hvs
  subst hvs'
  have hc0 := k5.c 0 u0 _ rfl rfl
  have he := rd_fl hc0.1
  have hcell : w.cell? ⟨b, 0, none⟩ = some (.pointer none) := by
    rw [cell_of_row w b 0 _ ty (0, 0) k4, ← he]; rfl
  rw [hp]
  refine Calls.mono (h b w hcell (by simp [World.shape?, k4]) (by simp [World.frozen?, k4])) ?_
  rintro ex w' ⟨rfl, rfl⟩
  have hw : ∀ g, g ≠ b → (w.setCell ⟨b, 0, none⟩ (.pointer (some ⟨b, 0, none⟩))).heap[g]? = w.heap[g]? := fun g hg => heap_setCell_other w _ g _ hg
  have hwb : (w.setCell ⟨b, 0, none⟩ (.pointer (some ⟨b, 0, none⟩))).heap[b]? = some (.cells #[.pointer (some ⟨b, 0, none⟩), u1] ty (0, 0)) := by
    simp [World.setCell, Array.getElem?_modify, k4]
  have hE : Ext w F.U (w.setCell ⟨b, 0, none⟩ (.pointer (some ⟨b, 0, none⟩))) F.U := ⟨fun b' o x hc ho => by
      have hne : b' ≠ b := fun hbb => by rw [hbb, k3] at ho; omega
      exact ⟨(World.cell?_of_block (hw b' hne)).trans hc, ho⟩, fun r es c hr hu => by
      have hne : r ≠ b := fun hbb => by rw [hbb, k3] at hu; omega
      exact ⟨hw r hne, rfl⟩⟩
  have hne1 : ∀ g, T 1 g → g ≠ b := fun g hg hgb => k6 1 (hgb ▸ hg)
  refine ⟨_, F.U, F.S, rfl, below_bare rfl rfl rfl, fun g hg hS => ?_, fun i g hi hg => .inl ⟨i, hi, hg⟩, hdis, fun i o ho => ?_, ⟨#[], rfl, Rds.nil⟩⟩
  · have hne : g ≠ b := fun hgb => hS 0 (Nat.zero_lt_one) ((k7 g).2 (.inl hgb))
    exact ⟨hw g hne, rfl⟩
  · cases i with
    | succ i => simp at ho
    | zero =>
      simp at ho
      subst ho
      refine ⟨b, #[.pointer (some ⟨b, 0, none⟩), u1], T, hb, k2, k3, hwb, ⟨by simp, fun k x c hk hc => ?_, fun x hx => ?_, k5.d, fun k g hg => k5.b k g hg⟩, k6, k7⟩
      · match k, hk, hc with
        | 0, hk, hc =>
          simp at hk hc
          subst hk hc
          exact ⟨.fl _, hc0.2⟩
        | 1, hk, hc =>
          simp at hk hc
          subst hk hc
          exact Toc.ext hE (fun g hg hlt => ⟨hw g (hne1 g hg), rfl⟩) (k5.c 1 u1 _ rfl rfl)
        | k + 2, hk, hc => simp at hk
      · simp at hx
        rcases hx with rfl | rfl
        · rfl
        · exact k5.o x (by simp)
theorem bys_app (a b : ByteArray) : bys a ++ bys b = bys (a ++ b) := by
  unfold bys
  rw [← List.map_append, ByteArray.data_append, Array.toList_append]
theorem rc_bytes {w : World} {U : Nat → Nat} {xs : List Value} {s : ByteArray} (h : Rc w U xs ((bys s).map (rI .u8)).flatten) : xs = Lib.byteCells s.data.toList := by
  rw [rI_flat] at h
  have h1 : (bys s).map (fun x => DV.fl (.int .u8 x)) = (Lib.byteCells s.data.toList).map DV.fl := by
    unfold bys Lib.byteCells
    rw [List.map_map, List.map_map]
    apply List.map_congr_left
    intro b _
    rfl
  rw [h1] at h
  exact rds_flat h.1
theorem rg_bstr {P : Program} {N : Nat} {w0 : World} {U0 : Nat → Nat} {d : Nat} {ops : Array Oper} {o : Oper} {k : Nat} {L : List (Nat × AV)} {M : List (Nat × Ob)} {R : AS → Prop} {f : FuncId} {x : Operand} {ats : Array TypeId} {m ty : Nat} {v u : Value} {s : ByteArray}
    (hS : ∀ B b l (w : World), Lib.IsBuilder ty 5 B b (Lib.byteCells l) w → B ≤ w.heap.size → Calls P f #[.pointer (some ⟨b, 0, none⟩)] w fun e w' => e = .returned (.string ⟨l.toArray⟩) ∧ Below B w w')
    (ho : ops[k]? = some o) (hg : o.guard = none) (hop : o.op = .call { callee := .value (.func f), args := #[x], argTypes := ats }) (hdst : o.dst = some d) (hd : dOk o N = true) {fn : Func} (hf : P.funcs[f]? = some fn) (hn : (fn.name == "runtime.NumGoroutine") = false) (hb : fn.body.isNone = false)
    (hx : (SS L M).ev x = .pv m v) (hm : ln M m = .bt ty [.dv (.fl u), .ow 5 1 (List.map (rI .u8) (bys s))]) (hu : u = v ∨ u = .pointer none)
    (h : RG P N w0 U0 ops (k + 1) (SS [(d, .d (.fl (.string s)))] []) R) : RG P N w0 U0 ops k (SS L M) R := by
  refine ⟨fun a w hst Q hQ => ?_⟩
  have hlt : k < ops.size := (Array.getElem?_eq_some_iff.1 ho).1
  have e1 : ((List.range (ops.size - k)).map (· + k)) = k :: ((List.range (ops.size - (k + 1))).map (· + (k + 1))) := by
    rw [show ops.size - k = (ops.size - (k + 1)) + 1 by omega, List.range_succ_eq_map]
    simp only [List.map_cons, Nat.zero_add, List.map_map, List.cons.injEq, true_and]
    apply List.map_congr_left
    intro x _
    show x + 1 + k = x + (k + 1)
    omega
  rw [e1, wpOps_cons]
  unfold wpOp
  rw [ho]
  simp only
  have hw : Region.wanted o (yielded ops a.tmps) = true := by simp [Region.wanted, hg]
  rw [if_pos hw]
  refine .inl ?_
  obtain ⟨F, hF⟩ := hst.f
  obtain ⟨h1, b, hb1, hb2⟩ : Rav w F (.pv m v) (a.eval x) := by have := hF.ev x; rwa [hx] at this
  have hob := hF.n m
  rw [show (SS L M).n m = _ from hm] at hob
  obtain ⟨b', vs, T, k1, k2, k3, k4, k5, k6, k7⟩ := hob
  rw [hb1] at k1; injection k1 with k1; subst k1
  obtain ⟨u0, u1, hvs⟩ := two_of (l := vs.toList) (by rw [k5.l]; rfl)
  obtain ⟨vl⟩ := vs
  have hvs' : vl = [u0, u1] := hvs
  subst hvs'
  have he := rd_fl (k5.c 0 u0 _ rfl rfl).1
  obtain ⟨xs, y1, y2, y3, y4, y5⟩ := k5.c 1 u1 _ rfl rfl
  have hxs := rc_bytes y2
  have hlen : (List.map (rI .u8) (bys s)).length = (Lib.byteCells s.data.toList).length := by simp [bys, Lib.byteCells]
  rw [hlen, hxs] at y1
  have hBA : Lib.BuilderAt ty 5 w0.heap.size b u (Lib.byteCells s.data.toList) w := ⟨k2, u1, by rw [← he]; exact k4, y1, fun hc => k6 1 ((y4 b).2 hc)⟩
  have hIs : Lib.IsBuilder ty 5 w0.heap.size b (Lib.byteCells s.data.toList) w := by
    rcases hu with hu | hu
    · right; rw [← hb2, ← hu]; exact hBA
    · left; rw [← hu]; exact hBA
  have hex : (execOp a.eval o).run P w = .ok (.enter f #[.pointer (some ⟨b, 0, none⟩)]) w := by
    unfold execOp
    simp only [hop, resolve, Act.eval, Deferred.ofValue, invoke, Sem.run_bind, Sem.run_pure, Result.andThen_ok]
    have e1' : (#[] ++ Array.map a.eval #[x] ++ #[] : Array Value) = #[.pointer (some ⟨b, 0, none⟩)] := by
      apply Array.ext'
      simp [h1, hb2]
    rw [e1']
    exact run_call hf hn hb _ w
  unfold Oper.wp
  rw [hex, Oper.upon_enter]
  refine Calls.mono (hS w0.heap.size b s.data.toList w hIs hst.b.size) ?_
  rintro ex w' ⟨rfl, hbel⟩
  have hs0 : (⟨s.data.toList.toArray⟩ : ByteArray) = s := rfl
  rw [hs0]
  refine h.go _ w' ⟨by rw [put_defers]; exact hst.d, by rw [put_size]; exact hst.s, hst.b.trans hbel, ⟨fun _ => none, fun _ => undef, U0, fun _ _ => False⟩, fun _ _ => rfl, fun t => ?_, fun m => trivial, fun m m' b h => by cases h⟩ Q hQ
  have hlt2 : d < a.tmps.size := by
    unfold dOk at hd
    rw [hdst] at hd
    rw [hst.s]
    exact Nat.le_of_ble_eq_true hd
  show Rav w' _ (bif Nat.beq d t then _ else AV.un) _
  rw [hdst, put_get hlt2]
  by_cases hdt : d = t
  · subst hdt
    rw [Nat.beq_refl, if_pos rfl]
    exact .fl _
  · rw [nbeq hdt]; trivial
end Go.Proofs.YtglhonnmppclpaaDoor.Av
