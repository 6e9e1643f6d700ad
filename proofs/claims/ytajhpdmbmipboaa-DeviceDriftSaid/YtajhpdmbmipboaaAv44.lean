/- 'm[k] = v' at a key of text that has this very value. No condition. -/
import Derived.Test.YtajhpdmbmipboaaAv43
set_option linter.unusedSimpArgs false
set_option linter.unusedVariables false
namespace Go.Proofs.Ytajhpdmbmipboaa.Av
open Go Go.RowKit ChangeMaps
section
variable {P : Program} {N : Nat} {w0 : World} {U0 : Nat → Nat}
theorem op_mapSameS {o : Oper} {σ : AS} {t : TypeId} {x y z : Operand} (ho : o.op = .mapUpdate t x y z) (hdn : o.dst = none) {kt et : TypeId} (ht : P.underlying t = some (.map kt et)) {td : TypeDesc} (hk : P.underlying kt = some td) (htd : keyTd td = true)
    {m : Nat} {xs : List (Value × DV)} (hx : σ.ev x = .ow m) (hm : σ.n m = .mp xs) {p : ByteArray} (hy : σ.ev y = .d (.fl (.string p))) {v : Value} (hr : mfind td (.string p) xs = some (some (.fl v))) (hz : σ.ev z = .d (.fl v)) :
    OpS P N w0 U0 o σ ⟨none, [(m, .mp xs)], [m], []⟩ := by
  intro σ' hok a w hs K Q hK
  obtain ⟨F, hF⟩ := hs.f
  have hv : a.eval x = F.γ m := ev_get hok hF (x := x) (by simp [ho, Op.operands]) hx
  have hkv : a.eval y = .string p := flat_val (ev_get hok hF (x := y) (by simp [ho, Op.operands]) hy)
  have hvz : a.eval z = v := flat_val (ev_get hok hF (x := z) (by simp [ho, Op.operands]) hz)
  have hm' : σ'.n m = .mp xs := by rw [hok.n m (by simp)]; exact hm
  have hn := hF.n m
  rw [hm'] at hn
  obtain ⟨b, es, c, h1, h2, h3, h4, h5, h6⟩ := hn
  have hlt : b < w.heap.size := (Array.getElem?_eq_some_iff.1 h4).1
  obtain ⟨_, g2⟩ := find_ents es.toList xs 0 h5 _ hr
  obtain ⟨j, u, g3, g4⟩ := g2 _ rfl
  have hu : u = v := by cases g4; rfl
  subst hu
  obtain ⟨e, _, g5, g6, g7⟩ := find_at es.toList 0 g3
  have g5 : es[j]? = some e := by simpa using g5
  have g8 : (Value.string p) = e.key := sameNow_eq g7
  have hmod : (es.modify j fun e => { e with key := .string p, val := u }) = es := by
    apply Array.ext
    · simp
    · intro i h1 h2
      rw [Array.getElem_modify]
      split
      · rename_i hji
        subst hji
        have g9 : es[j] = e := by have := Array.getElem?_eq_getElem (show j < es.size by simpa using h1); rw [this] at g5; injection g5
        rw [g9]
        cases e
        simp at g6 g8
        subst g6 g8
        rfl
      · rfl
  have hrun : (execOp a.eval o).run P w = .ok .skip (setBlock w b (.map es c)) := by
    simp [execOp, ho, hv, h1, hkv, hvz, Instr.mapUpdate, run_underlying ht, MapKept.run_getObj_map h4, run_checkKey' hk htd, run_findKey' hk g3, g5, ← g8, Instr.keyThatStays, Instr.sameBits, (MapKept.bytes_beq p p).2 rfl, hmod, MapKept.run_setObj_map _ h4, Result.andThen, setBlock]
  have hE := ext_setBlock (w := w) (Obj.map es c) h3
  have hfit := hF.setobj (a' := a) (m := m) (b := b) (by rw [hm']; rfl) h6 h3 (obj := .map es c) (ob := .mp xs) ⟨b, _, _, h1, h2, h3, setBlock_same _ hlt, h5.ext hE, h6⟩
    (tw := none) (fun _ => rfl) (fun _ _ h => by cases h) [m]
  unfold Oper.wp
  rw [hrun]
  have : a.put o.dst undef = a := by rw [hdn]; rfl
  unfold Oper.upon
  simp only [this]
  exact hK _ _ ⟨hs.d, hs.s, below_setBlock hs.b h2 _, _, hfit⟩
end
end Go.Proofs.Ytajhpdmbmipboaa.Av
