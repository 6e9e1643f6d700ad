/- Further operations: a pointer that is not nil, remainders, a map's entry written again, the capacity of nil. Conditions: as each theorem names them. -/
import Derived.Test.YteplcjhnmmpicaaAv23
set_option linter.unusedSimpArgs false
set_option linter.unusedVariables false
namespace Go.Proofs.Yteplcjhnmmpicaa.Av
open Go Go.RowKit Go.ChangeMaps
section
variable {P : Program} {N : Nat} {w0 : World} {U0 : Nat → Nat}
theorem op_nilCheck {o : Oper} {σ : AS} {x : Operand} (ho : o.op = .nilCheck x) {m j : Nat} (hx : σ.ev x = .pt m j) (hd : dOk o N = true) : OpS P N w0 U0 o σ ⟨o.dst.map fun d => (d, .pt m j), [], [], []⟩ :=
  opS_still hd fun σ' hok a w F hF => by
    obtain ⟨b, h2, h3⟩ := ev_get hok hF (by simp [ho, Op.operands]) hx
    exact ⟨_, by simp [execOp, ho, h3], b, h2, rfl⟩
theorem b_rem (t : TypeId) (a c : Int) (x y : Operand) (w : World) (h0 : 0 ≤ a) (hc : 0 < c) : (do eqGuard .rem t x y (.int .i64 a) (.int .i64 c); binOp .rem t (.int .i64 a) (.int .i64 c) : Sem Value).run P w = .ok (.int .i64 (a % c)) w := by
  have : c ≠ 0 := by omega
  simp [eqGuard, binOp, Op.intDiv, this, Int.tmod_eq_emod_of_nonneg h0]
theorem op_cap_nil {o : Oper} {σ : AS} {t e : TypeId} {x : Operand} (ho : o.op = .call { callee := .builtin .cap, args := #[x], argTypes := #[t] }) (hu : P.underlying t = some (.slice e)) {n c : Nat} {A : Option Addr} (hx : σ.ev x = .d (.fl (.slice A n c))) (hd : dOk o N = true) : OpS P N w0 U0 o σ ⟨o.dst.map fun d => (d, .d (.fl (.int .i64 c))), [], [], []⟩ :=
  opS_still hd fun σ' hok a w F hF => by
    have h1 := flat_val (ev_get hok hF (x := x) (by simp [ho, Op.operands, Call.operands]) hx)
    exact ⟨_, by simp [execOp, ho, resolve, invoke, builtin, Builtin.cap_, h1, run_underlying hu, goInt], .fl _⟩
theorem find_at {td : TypeDesc} {k : Value} : ∀ (es : List MapEntry) (i : Nat) {j : Nat} {v : Value}, Instr.findNow td k es i = some (some (j, v)) → ∃ e, i ≤ j ∧ es[j - i]? = some e ∧ e.val = v ∧ Instr.sameNow td k e.key = some true
  | [], i, j, v, h => by simp [Instr.findNow] at h
  | e :: es, i, j, v, h => by
    unfold Instr.findNow at h
    cases hs : Instr.sameNow td k e.key with
    | none => rw [hs] at h; cases h
    | some b =>
      rw [hs] at h
      cases b with
      | true =>
        simp at h
        obtain ⟨rfl, rfl⟩ := h
        exact ⟨e, Nat.le_refl _, by simp, rfl, hs⟩
      | false =>
        simp only at h
        obtain ⟨e', h1, h2, h3, h4⟩ := find_at es (i + 1) h
        exact ⟨e', by omega, by rw [show j - i = (j - (i + 1)) + 1 by omega]; simpa using h2, h3, h4⟩
/-- 'm[k] = v' at a key that has this very value -/
theorem op_mapSame {o : Oper} {σ : AS} {t : TypeId} {x y z : Operand} (ho : o.op = .mapUpdate t x y z) (hdn : o.dst = none) {kt et : TypeId} (ht : P.underlying t = some (.map kt et)) {td : TypeDesc} (hk : P.underlying kt = some td) (htd : keyTd td = true)
    {m : Nat} {xs : List (Value × DV)} (hx : σ.ev x = .ow m) (hm : σ.n m = .mp xs) {q : IntKind} {p : Int} (hy : σ.ev y = .d (.fl (.int q p))) {v : Value} (hr : mfind td (.int q p) xs = some (some (.fl v))) (hz : σ.ev z = .d (.fl v)) :
    OpS P N w0 U0 o σ ⟨none, [(m, .mp xs)], [m], []⟩ := by
  intro σ' hok a w hs K Q hK
  obtain ⟨F, hF⟩ := hs.f
  have hv : a.eval x = F.γ m := ev_get hok hF (x := x) (by simp [ho, Op.operands]) hx
  have hkv : a.eval y = .int q p := flat_val (ev_get hok hF (x := y) (by simp [ho, Op.operands]) hy)
  have hvz : a.eval z = v := flat_val (ev_get hok hF (x := z) (by simp [ho, Op.operands]) hz)
  have hm' : σ'.n m = .mp xs := by rw [hok.n m (by simp)]; exact hm
  have hn := hF.n m
  rw [hm'] at hn
  obtain ⟨b, es, c, h1, h2, h3, h4, h5, h6⟩ := hn
  have hlt : b < w.heap.size := (Array.getElem?_eq_some_iff.1 h4).1
  obtain ⟨_, g2⟩ := find_ents es.toList xs 0 h5 _ hr
  obtain ⟨j, u, g3, g4⟩ := g2 _ rfl
  have hu : u = v := by cases g4; rfl
  subst hu
  obtain ⟨e, _, g5, g6, g7⟩ := find_at es.toList 0 g3
  have g5 : es[j]? = some e := by simpa using g5
  have g8 : (Value.int q p) = e.key := sameNow_eq g7
  have hmod : (es.modify j fun e => { e with key := .int q p, val := u }) = es := by
    apply Array.ext
    · simp
    · intro i h1 h2
      rw [Array.getElem_modify]
      split
      · rename_i hji
        subst hji
        have g9 : es[j] = e := by have := Array.getElem?_eq_getElem (show j < es.size by simpa using h1); rw [this] at g5; injection g5
        rw [g9]
        cases e
        simp at g6 g8
        subst g6 g8
        rfl
      · rfl
  have hrun : (execOp a.eval o).run P w = .ok .skip (setBlock w b (.map es c)) := by
    simp [execOp, ho, hv, h1, hkv, hvz, Instr.mapUpdate, run_underlying ht, MapKept.run_getObj_map h4, run_checkKey' hk htd, run_findKey' hk g3, g5, ← g8, Instr.keyThatStays, Instr.sameBits, hmod, MapKept.run_setObj_map _ h4, Result.andThen, setBlock]
  have hE := ext_setBlock (w := w) (Obj.map es c) h3
  have hfit := hF.setobj (a' := a) (m := m) (b := b) (by rw [hm']; rfl) h6 h3 (obj := .map es c) (ob := .mp xs) ⟨b, _, _, h1, h2, h3, setBlock_same _ hlt, h5.ext hE, h6⟩
    (tw := none) (fun _ => rfl) (fun _ _ h => by cases h) [m]
  unfold Oper.wp
  rw [hrun]
  have : a.put o.dst undef = a := by rw [hdn]; rfl
  unfold Oper.upon
  simp only [this]
  exact hK _ _ ⟨hs.d, hs.s, below_setBlock hs.b h2 _, _, hfit⟩
theorem Res1.cellT {σ : AS} {a : Tmp} {ty : TypeId} {m : Nat} {ty' : TypeId} {cs : List DV} {desc : TypeDesc} {z : Value} {sz b : Nat} {d : DV} (ha : σ.t a = .pt m 0) (hm : σ.n m = .bx ty' cs) (hu : P.underlying ty = some desc) (hg : aggD desc = true) (hi : TI P ty z sz b) (hl : Nat.beq cs.length sz = true) (hc : Cv (.ag cs) d) : Res1 P σ (.cell a ty) d := by
  obtain ⟨i, g1, _, g3, _⟩ := hi
  exact .cell ha hm hu hg g1 (by rw [g3]; exact hl) hc
end
end Go.Proofs.Yteplcjhnmmpicaa.Av
