/- Slices of slices. Conditions: as each theorem names them. -/
import Derived.Test.YteplcjhnmmpicaaAv18
set_option linter.unusedSimpArgs false
set_option linter.unusedVariables false
namespace Go.Proofs.Yteplcjhnmmpicaa.Av
open Go Go.RowKit
section
variable {P : Program} {N : Nat} {w0 : World} {U0 : Nat → Nat}
inductive BndS (σ : AS) : Option Operand → Nat → Nat → Prop
  | no (d : Nat) : BndS σ none d d
  | so {y : Operand} {k : IntKind} {i : Int} {n : Nat} (d : Nat) (h : σ.ev y = .d (.fl (.int k i))) (e : i = (n : Int)) : BndS σ (some y) d n
theorem BndS.get {σ σ' : AS} {a : Act} {w : World} {F : Fr} (hF : Fits w0 U0 σ' a w F) {x : Option Operand} {d n : Nat} (h : BndS σ x d n) (hev : ∀ y, x = some y → σ'.ev y = σ.ev y) : (x.map a.eval = none ∧ n = d) ∨ ∃ k, x.map a.eval = some (.int k (n : Int)) := by
  cases h with
  | no => exact .inl ⟨rfl, rfl⟩
  | @so y k i n _ h e =>
    subst e
    have := hF.ev y
    rw [hev y rfl, h] at this
    have h2 : a.eval y = .int k (n : Int) := flat_val this
    exact .inr ⟨k, by simp [h2]⟩
theorem run_bounds (w : World) (n c l h : Nat) (lo hi : Option Value) (hlo : (lo = none ∧ l = 0) ∨ ∃ k, lo = some (.int k (l : Int))) (hhi : (hi = none ∧ h = n) ∨ ∃ k, hi = some (.int k (h : Int))) (h1 : l ≤ h) (h2 : h ≤ n) (h3 : n ≤ c) :
    (Instr.sliceBounds true n c lo hi none).run P w = .ok (l, h, c) w := by
  have g1 : ∀ (k : IntKind) (code : BoundsCode), (Instr.sliceBound (.int k (h : Int)) c code).run P w = .ok h w := fun k code => by
    rw [run_sliceBound w k h c code (by omega) (by omega)]; simp
  have g2 : ∀ (k : IntKind) (code : BoundsCode), (Instr.sliceBound (.int k (l : Int)) h code).run P w = .ok l w := fun k code => by
    rw [run_sliceBound w k l h code (by omega) (by omega)]; simp
  rcases hlo with ⟨rfl, rfl⟩ | ⟨k, rfl⟩ <;> rcases hhi with ⟨rfl, rfl⟩ | ⟨k', rfl⟩ <;> simp [Instr.sliceBounds, g1, g2, Result.andThen]
theorem op_slice {o : Oper} {σ : AS} {t : TypeId} {x : Operand} {lo hi : Option Operand} (ho : o.op = .slice t x lo hi none) {e : TypeId} (hu : P.underlying t = some (.slice e)) {zv : Value} {sz b : Nat} (ht : TI P e zv sz b) {rows : List (List DV)} (hx : σ.ev x = .d (.sl sz rows))
    {l h : Nat} (hl : BndS σ lo 0 l) (hh : BndS σ hi rows.length h) (h1 : l ≤ h) (h2 : h ≤ rows.length) (hd : dOk o N = true) : OpS P N w0 U0 o σ ⟨o.dst.map fun d => (d, .d (.sl sz ((rows.drop l).take (h - l)))), [], [], []⟩ :=
  opS_still (P := P) (av := .d (.sl sz ((rows.drop l).take (h - l)))) hd fun σ' hok a w F hF => by
    obtain ⟨i, t1, _, t3, _⟩ := ht
    subst t3
    have hv := ev_get hok hF (x := x) (by simp [ho, Op.operands]) hx
    have e1 := hl.get hF (fun y hy => ev_ok hok (by subst hy; simp [ho, Op.operands]))
    have e2 := hh.get hF (fun y hy => ev_ok hok (by subst hy; simp [ho, Op.operands]))
    have hu' : P.underlying t = some (.slice (P.elem t)) := by simp [Program.elem, hu]
    have hel : P.elem t = e := by simp [Program.elem, hu]
    have key : ∀ (A : Option Addr) (n c : Nat), a.eval x = .slice A n c → rows.length = n → n ≤ c → (execOp a.eval o).run P w = .ok (.value (sliced A l h c i.size)) w := by
      intro A n c hav hn hnc
      have hb := run_bounds (P := P) w n c l h (lo.map a.eval) (hi.map a.eval) e1 (by rw [hn] at e2; exact e2) h1 (by omega) hnc
      unfold execOp
      simp only [ho, hav, Option.map_none, Sem.run_bind, run_sliceAt_slice w t _ _ _ _ hu', run_slice_any w t A n c hu', hb, Result.andThen_ok, hel, run_sizeOf' t1, Sem.run_pure]
    generalize hav : a.eval x = v at hv
    cases hv with
    | sn A c z =>
      have hl0 : l = 0 := by simp at h2; omega
      have hh0 : h = 0 := by simpa using h2
      subst hl0 hh0
      refine ⟨_, key A 0 c hav rfl (by omega), ?_⟩
      exact .sn _ _ _
    | sl b0 off n c z _ u hn hz hm hcell hr =>
      refine ⟨_, key _ n c hav hn hm.2, ?_⟩
      rcases Nat.eq_or_lt_of_le h1 with h3 | h3
      · subst h3
        simp only [Nat.sub_self, List.take_zero, sliced]
        exact .sn _ _ _
      · have hne : ¬ c = l := by omega
        unfold sliced
        rw [if_neg hne]
        have ha : (⟨b0, off, none⟩ : Addr).add (l * i.size) = ⟨b0, off + l * i.size, none⟩ := by
          unfold Addr.add
          by_cases hj : l * i.size = 0 <;> simp [hj]
        simp only [Option.map_some, ha]
        have hrow : ∀ q, ((rows.drop l).take (h - l))[q]? = if q < h - l then rows[l + q]? else none := fun q => by
          rw [List.getElem?_take, List.getElem?_drop]
        have hcl : ∀ q j y, cellAt ((rows.drop l).take (h - l)) q j = some y → cellAt rows (l + q) j = some y := fun q j y hy => by
          unfold cellAt at hy ⊢
          rw [hrow] at hy
          split at hy
          · exact hy
          · cases hy
        have hoff : ∀ q j, off + l * i.size + q * i.size + j = off + (l + q) * i.size + j := fun q j => by rw [Nat.add_mul]; omega
        refine .sl b0 (off + l * i.size) (h - l) (c - l) i.size _ (fun q j => u (l + q) j) (by rw [List.length_take, List.length_drop]; omega) (fun r hr' => hz r (List.mem_of_mem_drop (List.mem_of_mem_take hr'))) ⟨by omega, by omega⟩ (fun q j y hy => ?_) (fun q j y hy => hr _ _ _ (hcl q j y hy))
        rw [hoff]
        exact hcell _ _ _ (hcl q j y hy)
theorem s_slice {o : Oper} {σ : AS} {t : TypeId} {x : Operand} {lo hi : Option Operand} (ho : o.op = .slice t x lo hi none) {e : TypeId} (hu : P.underlying t = some (.slice e)) {zv : Value} {sz b : Nat} (ht : TI P e zv sz b) {α : Type} {f : α → List DV} {L : List α} (hx : σ.ev x = .d (.sl sz (L.map f)))
    {l h : Nat} (hl : BndS σ lo 0 l) (hh : BndS σ hi L.length h) (h1 : l ≤ h) (h2 : h ≤ L.length) (hd : dOk o N = true) : OpS P N w0 U0 o σ ⟨o.dst.map fun d => (d, .d (.sl sz (((L.drop l).take (h - l)).map f))), [], [], []⟩ := by
  have := op_slice (P := P) (N := N) (w0 := w0) (U0 := U0) ho hu ht hx hl (by rw [List.length_map]; exact hh) h1 (by rw [List.length_map]; exact h2) hd
  rwa [← List.map_drop, ← List.map_take] at this
theorem take_one {α : Type} [Inhabited α] {L : List α} {k : Nat} (h : k < L.length) : (L.drop k).take (k + 1 - k) = [ix L k] := by
  rw [drop_ix h, show k + 1 - k = 1 by omega]; rfl
theorem sEq_of {a b : ByteArray} (h : a = b) : sEq a b = true := by rw [h]; simp [sEq]
end
end Go.Proofs.Yteplcjhnmmpicaa.Av
