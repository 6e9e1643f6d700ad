/- Look-ups without a word; slices of strings. Conditions: as each theorem names them. -/
import Derived.Test.YteplcjhnmmpicaaAv19
set_option linter.unusedSimpArgs false
set_option linter.unusedVariables false
namespace Go.Proofs.Yteplcjhnmmpicaa.Av
open Go Go.RowKit
section
variable {P : Program} {N : Nat} {w0 : World} {U0 : Nat → Nat}
theorem op_lookup1 {o : Oper} {σ : AS} {t : TypeId} {x y : Operand} (ho : o.op = .lookup t x y false) {kt et : TypeId} (ht : P.underlying t = some (.map kt et)) {td : TypeDesc} (hk : P.underlying kt = some td) (htd : keyTd td = true)
    {z : Value} {sz bb : Nat} (hi : TI P et z sz bb) (hz : zOk z = true) {av : AV} (hx : σ.ev x = av) {xs : List (Value × DV)} {rn : List Nat} (hm : MapS σ av xs rn) {k : Value} (hy : σ.ev y = .d (.fl k)) {r : Option DV} (hr : mfind td k xs = some r) {d : DV} (he : r.getD (zDV z) = d) (hd : dOk o N = true) :
    OpS P N w0 U0 o σ ⟨o.dst.map fun q => (q, .d d), [], rn, []⟩ := by
  subst he
  intro σ' hok a w hs K Q hK
  obtain ⟨F, hF⟩ := hs.f
  obtain ⟨b, es, c, h1, h2, h3⟩ := hm.get hF (fun q hq => hok.n q hq) (ev_get hok hF (x := x) (by simp [ho, Op.operands]) hx)
  have hky := ev_get hok hF (x := y) (by simp [ho, Op.operands]) hy
  have hkv : a.eval y = k := by generalize a.eval y = v at hky; cases hky; rfl
  obtain ⟨i, i1, i2, _, _⟩ := hi
  have hzv : (zeroValue et).run P w = .ok z w := by simp [zeroValue, typeInfo, i1, i2]
  obtain ⟨g1, g2⟩ := find_ents es.toList xs 0 h3 r hr
  have key : ∃ v, (execOp a.eval o).run P w = .ok (.value v) w ∧ Rd w F.U v (r.getD (zDV z)) := by
    cases r with
    | none =>
      refine ⟨z, ?_, rd_zero hz⟩
      simp [execOp, ho, Instr.lookup, h1, hkv, run_underlying ht, MapKept.run_getObj_map h2, run_checkKey' hk htd, run_findKey' hk (g1 rfl), hzv, Result.andThen]
    | some d =>
      obtain ⟨j, v, e1, e2⟩ := g2 d rfl
      refine ⟨v, ?_, e2⟩
      simp [execOp, ho, Instr.lookup, h1, hkv, run_underlying ht, MapKept.run_getObj_map h2, run_checkKey' hk htd, run_findKey' hk e1, Result.andThen]
  obtain ⟨v, hrun, hv⟩ := key
  unfold Oper.wp
  rw [hrun]
  have hfit := hF.put (U' := F.U) (w' := w) hs.b.size ⟨fun _ _ => rfl, fun _ _ => rfl⟩ hd hs.s (av := .d (r.getD (zDV z))) (v := v) hv rn []
  exact hK _ _ ⟨by rw [put_defers]; exact hs.d, by rw [put_size]; exact hs.s, hs.b, _, hfit⟩
theorem run_boundsS (w : World) (n l h : Nat) (lo hi : Option Value) (hlo : (lo = none ∧ l = 0) ∨ ∃ k, lo = some (.int k (l : Int))) (hhi : (hi = none ∧ h = n) ∨ ∃ k, hi = some (.int k (h : Int))) (h1 : l ≤ h) (h2 : h ≤ n) :
    (Instr.sliceBounds false n n lo hi none).run P w = .ok (l, h, n) w := by
  have g1 : ∀ (k : IntKind) (code : BoundsCode), (Instr.sliceBound (.int k (h : Int)) n code).run P w = .ok h w := fun k code => by
    rw [run_sliceBound w k h n code (by omega) (by omega)]; simp
  have g2 : ∀ (k : IntKind) (code : BoundsCode), (Instr.sliceBound (.int k (l : Int)) h code).run P w = .ok l w := fun k code => by
    rw [run_sliceBound w k l h code (by omega) (by omega)]; simp
  rcases hlo with ⟨rfl, rfl⟩ | ⟨k, rfl⟩ <;> rcases hhi with ⟨rfl, rfl⟩ | ⟨k', rfl⟩ <;> simp [Instr.sliceBounds, g1, g2, Result.andThen]
theorem op_strslice {o : Oper} {σ : AS} {t : TypeId} {x : Operand} {lo hi : Option Operand} (ho : o.op = .slice t x lo hi none) (hu : P.underlying t = some .string) {s : ByteArray} (hx : σ.ev x = .d (.fl (.string s)))
    {l h : Nat} (hl : BndS σ lo 0 l) (hh : BndS σ hi s.size h) (h1 : l ≤ h) (h2 : h ≤ s.size) (hd : dOk o N = true) : OpS P N w0 U0 o σ ⟨o.dst.map fun d => (d, .d (.fl (.string (s.extract l h)))), [], [], []⟩ :=
  opS_still (P := P) (av := .d (.fl (.string (s.extract l h)))) hd fun σ' hok a w F hF => by
    have hv := flat_val (ev_get hok hF (x := x) (by simp [ho, Op.operands]) hx)
    have e1 := hl.get hF (fun y hy => ev_ok hok (by subst hy; simp [ho, Op.operands]))
    have e2 := hh.get hF (fun y hy => ev_ok hok (by subst hy; simp [ho, Op.operands]))
    have hb := run_boundsS (P := P) w s.size l h (lo.map a.eval) (hi.map a.eval) e1 e2 h1 h2
    refine ⟨_, ?_, Rd.fl _⟩
    simp only [execOp, ho, hv, Option.map_none, Sem.run_bind, run_sliceAt_string w t _ _ _ _ hu, Instr.slice, run_underlying hu, Result.andThen_ok]
    simp [hb, Result.andThen]
/-- a set of strings: the look-up among entries that come of a list -/
theorem mfind_set {α : Type} (key : α → ByteArray) (p : ByteArray) : ∀ l : List α, mfind .string (.string p) (l.map fun x => (Value.string (key x), DV.fl (.bool true))) = some (if (l.any fun x => sEq (key x) p) = true then some (.fl (.bool true)) else none)
  | [] => rfl
  | x :: l => by
    have ih := mfind_set key p l
    have hb : Instr.sameNow .string (.string p) (.string (key x)) = some (sEq (key x) p) := by
      show some (p == key x) = _
      congr 1
      by_cases h : p = key x
      · rw [← h, show sEq p p = true by simp [sEq]]
        exact (MapKept.bytes_beq p p).2 rfl
      · rw [show sEq (key x) p = false from by simp [sEq, Ne.symm h]]
        cases hq : p == key x with
        | false => rfl
        | true => exact absurd ((MapKept.bytes_beq p (key x)).1 hq) h
    simp only [List.map_cons, mfind, hb, List.any_cons]
    rcases fot (sEq (key x) p) with h | h
    · simp only [h, Bool.false_or]; exact ih
    · simp [h]
end
end Go.Proofs.Yteplcjhnmmpicaa.Av
