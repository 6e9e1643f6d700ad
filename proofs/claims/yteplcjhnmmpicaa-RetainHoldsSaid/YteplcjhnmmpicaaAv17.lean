/- Contracts whose result is the caller's own, read as data; typed own rows. Conditions: as each theorem names them. -/
import Derived.Test.YteplcjhnmmpicaaAv16
set_option linter.unusedSimpArgs false
set_option linter.unusedVariables false
namespace Go.Proofs.Yteplcjhnmmpicaa.Av
open Go Go.RowKit
section
variable {P : Program} {N : Nat} {w0 : World} {U0 : Nat → Nat}
theorem ctr_of_O {f : FuncId} {args : List DV} {cs : List OC} (h : CtrO P f args (.sv cs)) (hok : (cs.all OC.ok) = true) : Ctr P f args (.d (.ag (cs.map OC.rd))) := by
  intro vals U w hR
  refine Calls.mono (h vals U w hR) ?_
  rintro e w' ⟨v, U', rfl, h1, h2, h3⟩
  obtain ⟨vs, T, rfl, g⟩ := h3
  refine ⟨_, leakU U' cs T, rfl, h1, fun b hb => ?_, ?_⟩
  · rw [leakU_no (fun ⟨k, hk⟩ => by have := (g.lt hk).1; omega)]
    exact h2 b hb
  · have hzero : ∀ b, (∃ k, T k b) → U' b = 0 := fun b ⟨k, hk⟩ => by
      have hlt := g.b k b hk
      have hl := g.l
      have hto := g.c k _ _ (List.getElem?_eq_getElem hlt) (List.getElem?_eq_getElem (by omega))
      revert hto
      generalize cs[k]'(by omega) = c
      intro hto
      cases c with
      | un => exact absurd hk (hto b)
      | dv x => exact absurd hk (hto.2 b)
      | ow e z rows =>
        obtain ⟨xs, k1, k2, k3, k4, k5⟩ := hto
        exact k5 b ((k4 b).1 hk)
    have hE : Ext w' U' w' (leakU U' cs T) := ⟨fun b o u hc ho => ⟨hc, by
      by_cases hb : ∃ k, T k b
      · rw [hzero b hb] at ho; omega
      · rw [leakU_no hb]; exact ho⟩, fun r es c hr hu => ⟨rfl, leakU_no (fun hb => by rw [hzero r hb] at hu; omega)⟩⟩
    have hrc := g.leak (fun c hc => List.all_eq_true.1 hok c hc) hE (fun k b c hk hc => leakU_T g.d hk hc)
    exact .ag vs _ (by have := hrc.1.1; simpa using this) hrc.2 hrc.1.2
theorem set_get {α : Type} {l : List α} {i : Nat} {r r' : α} (h : l[i]? = some r) : (l.set i r')[i]? = some r' := by
  rw [List.getElem?_set_self (List.getElem?_eq_some_iff.1 h).1]
theorem get_lt {α : Type} {l : List α} {i : Nat} {r : α} (h : l[i]? = some r) : i < l.length := (List.getElem?_eq_some_iff.1 h).1
/-- rows that own nothing, by their elements -/
def tD {α : Type} (f : α → List DV) (l : List α) : List (List OC) := (l.map f).map (·.map OC.dv)
theorem tD_at {α : Type} [Inhabited α] {f : α → List DV} {l : List α} {i : Nat} (h : i < l.length) : (tD f l)[i]? = some (List.map OC.dv (f (ix l i))) := by
  unfold tD; rw [List.getElem?_map, List.getElem?_map, ix_get h]; rfl
theorem tD_len {α : Type} {f : α → List DV} {l : List α} : (tD f l).length = l.length := by simp [tD]
theorem s_append_td {o : Oper} {σ : AS} {t e : TypeId} {s x : Operand} (m : Nat) (ho : o.op = .call { callee := .builtin .append, args := #[s, x], argTypes := #[t, t] })
    {zv : Value} {sz b : Nat} (ht : P.underlying t = some (.slice e)) (hi : TI P e zv sz b) (hzs : Nat.beq zv.cells.size sz = true) (hz0 : Nat.blt 0 sz = true) {m0 : Nat} {α : Type} {f : α → List DV} {l l' : List α} {rn : List Nat} {av : AV}
    (hs : σ.ev s = .ow m0) (hm : σ.n m0 = .tr e sz (tD f l)) (hx : σ.ev x = av) (hxv : AvD σ av (.sl sz (l'.map f)) rn) (hbytes : (l.length + l'.length) * (b + 1) ≤ 140737488355328) (hd : dOk o N = true) :
    OpS P N w0 U0 o σ ⟨o.dst.map fun d => (d, .ow m), [(m, .tr e sz (tD f (l ++ l'))), (m0, .no)], m0 :: rn, [m]⟩ := by
  have := op_append_tr (P := P) (N := N) (w0 := w0) (U0 := U0) m ho ht hi hzs hz0 hs hm hx (RowsS.d hxv) rfl (n := l.length) (n' := l'.length) tD_len (by simp) hbytes hd
  have e1 : tD f l ++ (l'.map f).map (·.map OC.dv) = tD f (l ++ l') := by simp [tD]
  rw [e1] at this
  exact this
end
end Go.Proofs.Yteplcjhnmmpicaa.Av
