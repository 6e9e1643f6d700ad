/- Own rows whose elements are written or own rows in their turn. Conditions: as each theorem names them. -/
import Derived.Test.YteplcjhnmmpicaaAv10
set_option linter.unusedSimpArgs false
set_option linter.unusedVariables false
namespace Go.Proofs.Yteplcjhnmmpicaa.Av
open Go Go.RowKit
section
variable {P : Program} {N : Nat} {w0 : World} {U0 : Nat → Nat}
theorem flat_get {α : Type} {z : Nat} : ∀ {rows : List (List α)}, (∀ r ∈ rows, r.length = z) → ∀ {i j : Nat} {r : List α} {x : α}, rows[i]? = some r → r[j]? = some x → rows.flatten[i * z + j]? = some x ∧ i * z + j < rows.length * z := by
  intro rows
  induction rows with
  | nil => intro _ i j r x h; simp at h
  | cons r0 rows ih =>
    intro hz i j r x hr hx
    have h0 := hz r0 (by simp)
    have hj : j < r.length := (List.getElem?_eq_some_iff.1 hx).1
    have hrz := hz r (List.mem_of_getElem? hr)
    cases i with
    | zero =>
      simp at hr
      subst hr
      have : rows.length * z + z = (rows.length + 1) * z := by rw [Nat.succ_mul]
      refine ⟨by simp only [List.flatten_cons]; rw [Nat.zero_mul, Nat.zero_add, List.getElem?_append_left hj]; exact hx, by simp only [List.length_cons]; rw [← this]; omega⟩
    | succ i =>
      obtain ⟨h1, h2⟩ := ih (fun r hr => hz r (by simp [hr])) (i := i) (by simpa using hr) hx
      have e1 : (i + 1) * z = i * z + z := Nat.succ_mul i z
      have e2 : (rows.length + 1) * z = rows.length * z + z := Nat.succ_mul _ z
      refine ⟨?_, by simp only [List.length_cons]; omega⟩
      simp only [List.flatten_cons]
      rw [List.getElem?_append_right (by omega)]
      rw [show (i + 1) * z + j - r0.length = i * z + j by omega]
      exact h1
theorem flat_len {α : Type} {z : Nat} : ∀ {rows : List (List α)}, (∀ r ∈ rows, r.length = z) → rows.flatten.length = rows.length * z := by
  intro rows
  induction rows with
  | nil => intro _; simp
  | cons r rows ih =>
    intro hz
    simp only [List.flatten_cons, List.length_append, List.length_cons, Nat.succ_mul]
    rw [ih (fun r hr => hz r (by simp [hr])), hz r (by simp)]
    omega
/-- a splice in one row is a splice in the whole -/
theorem flat_splice {α : Type} {z : Nat} : ∀ {rows : List (List α)}, (∀ r ∈ rows, r.length = z) → ∀ {i j : Nat} {r : List α} (ds : List α), rows[i]? = some r → j + ds.length ≤ z →
    (rows.set i (r.take j ++ ds ++ r.drop (j + ds.length))).flatten = rows.flatten.take (i * z + j) ++ ds ++ rows.flatten.drop (i * z + j + ds.length) := by
  intro rows
  induction rows with
  | nil => intro _ i j r ds h; simp at h
  | cons r0 rows ih =>
    intro hz i j r ds hr hj
    have h0 := hz r0 (by simp)
    cases i with
    | zero =>
      simp at hr
      subst hr
      simp only [List.set_cons_zero, List.flatten_cons, Nat.zero_mul, Nat.zero_add]
      rw [List.take_append_of_le_length (by omega), List.drop_append_of_le_length (by omega)]
      simp
    | succ i =>
      have e1 : (i + 1) * z = i * z + z := Nat.succ_mul i z
      simp only [List.set_cons_succ, List.flatten_cons]
      rw [ih (fun r hr => hz r (by simp [hr])) ds (by simpa using hr) hj]
      rw [show (i + 1) * z + j = r0.length + (i * z + j) by omega, show r0.length + (i * z + j) + ds.length = r0.length + (i * z + j + ds.length) by omega, List.take_length_add_append, List.drop_length_add_append]
      simp
/-- cells that own nothing -/
theorem Tcs.ofRc {w : World} {U : Nat → Nat} {B : Nat} {us : List Value} {cs : List DV} (h : Rc w U us cs) : Tcs w U B us (cs.map .dv) (fun _ _ => False) :=
  ⟨by rw [List.length_map]; exact h.1.1, fun k u c h1 h2 => by
    rw [List.getElem?_map] at h2
    obtain ⟨x, hx, rfl⟩ := Option.map_eq_some_iff.1 h2
    exact ⟨h.1.2 k u x h1 hx, fun _ => id⟩, h.2, fun _ _ _ h => h.elim, fun _ _ h => h.elim⟩
theorem Tcs.splice {w : World} {U : Nat → Nat} {B : Nat} {us vs : List Value} {cs ds : List OC} {T T2 : Nat → Nat → Prop} (h : Tcs w U B us cs T) (k : Tcs w U B vs ds T2) (p : Nat) (hp : p + vs.length ≤ us.length) (hdis : ∀ i j b, T i b → T2 j b → False) :
    Tcs w U B (us.take p ++ vs ++ us.drop (p + vs.length)) (cs.take p ++ ds ++ cs.drop (p + ds.length)) (fun j b => if j < p then T j b else if j < p + vs.length then T2 (j - p) b else T j b) := by
  have hl := h.l
  have kl := k.l
  have hget : ∀ j, (us.take p ++ vs ++ us.drop (p + vs.length))[j]? = if j < p then us[j]? else if j < p + vs.length then vs[j - p]? else us[j]? := by
    intro j
    by_cases h1 : j < p
    · rw [if_pos h1, List.append_assoc, List.getElem?_append_left (by simp; omega), List.getElem?_take_of_lt h1]
    · rw [if_neg h1]
      by_cases h2 : j < p + vs.length
      · rw [if_pos h2, List.getElem?_append_left (by simp; omega), List.getElem?_append_right (by simp; omega)]
        congr 1
        simp
        omega
      · rw [if_neg h2, List.getElem?_append_right (by simp; omega), List.getElem?_drop]
        congr 1
        simp
        omega
  have hget2 : ∀ j, (cs.take p ++ ds ++ cs.drop (p + ds.length))[j]? = if j < p then cs[j]? else if j < p + vs.length then ds[j - p]? else cs[j]? := by
    intro j
    by_cases h1 : j < p
    · rw [if_pos h1, List.append_assoc, List.getElem?_append_left (by simp; omega), List.getElem?_take_of_lt h1]
    · rw [if_neg h1]
      by_cases h2 : j < p + vs.length
      · rw [if_pos h2, List.getElem?_append_left (by simp; omega), List.getElem?_append_right (by simp; omega)]
        congr 1
        simp
        omega
      · rw [if_neg h2, List.getElem?_append_right (by simp; omega), List.getElem?_drop]
        congr 1
        simp
        omega
  refine ⟨by simp; omega, fun j u c h1 h2 => ?_, fun u hu => ?_, fun j j' b h1 h2 => ?_, fun j b h1 => ?_⟩
  · rw [hget] at h1
    rw [hget2] at h2
    by_cases g1 : j < p
    · simp only [g1, if_true] at h1 h2 ⊢; exact h.c j u c h1 h2
    · by_cases g2 : j < p + vs.length
      · simp only [g1, g2, if_true, if_false] at h1 h2 ⊢; exact k.c _ u c h1 h2
      · simp only [g1, g2, if_false] at h1 h2 ⊢; exact h.c j u c h1 h2
  · rcases List.mem_append.1 hu with hu | hu
    · rcases List.mem_append.1 hu with hu | hu
      · exact h.o u (List.mem_of_mem_take hu)
      · exact k.o u hu
    · exact h.o u (List.mem_of_mem_drop hu)
  · skip
    by_cases g1 : j < p
    · by_cases g1' : j' < p
      · rw [if_pos g1] at h1; rw [if_pos g1'] at h2; exact h.d j j' b h1 h2
      · rw [if_pos g1] at h1; rw [if_neg g1'] at h2
        by_cases g2' : j' < p + vs.length
        · rw [if_pos g2'] at h2; exact (hdis _ _ _ h1 h2).elim
        · rw [if_neg g2'] at h2; exact h.d j j' b h1 h2
    · rw [if_neg g1] at h1
      by_cases g2 : j < p + vs.length
      · rw [if_pos g2] at h1
        by_cases g1' : j' < p
        · rw [if_pos g1'] at h2; exact (hdis _ _ _ h2 h1).elim
        · rw [if_neg g1'] at h2
          by_cases g2' : j' < p + vs.length
          · rw [if_pos g2'] at h2
            have := k.d _ _ b h1 h2
            omega
          · rw [if_neg g2'] at h2; exact (hdis _ _ _ h2 h1).elim
      · rw [if_neg g2] at h1
        by_cases g1' : j' < p
        · rw [if_pos g1'] at h2; exact h.d j j' b h1 h2
        · rw [if_neg g1'] at h2
          by_cases g2' : j' < p + vs.length
          · rw [if_pos g2'] at h2; exact (hdis _ _ _ h1 h2).elim
          · rw [if_neg g2'] at h2; exact h.d j j' b h1 h2
  · skip
    have hlen : (us.take p ++ vs ++ us.drop (p + vs.length)).length = us.length := by simp; omega
    rw [hlen]
    by_cases g1 : j < p
    · omega
    · rw [if_neg g1] at h1
      by_cases g2 : j < p + vs.length
      · omega
      · rw [if_neg g2] at h1; exact h.b j b h1
theorem Tcs.append {w : World} {U : Nat → Nat} {B : Nat} {us vs : List Value} {cs ds : List OC} {T T2 : Nat → Nat → Prop} (h : Tcs w U B us cs T) (k : Tcs w U B vs ds T2) (hdis : ∀ i j b, T i b → T2 j b → False) :
    Tcs w U B (us ++ vs) (cs ++ ds) (fun j b => if j < us.length then T j b else T2 (j - us.length) b) := by
  have hl := h.l
  refine ⟨by simp [h.l, k.l], fun j u c h1 h2 => ?_, fun u hu => (List.mem_append.1 hu).elim (h.o u) (k.o u), fun j j' b h1 h2 => ?_, fun j b h1 => ?_⟩
  · by_cases g1 : j < us.length
    · rw [List.getElem?_append_left g1] at h1
      rw [List.getElem?_append_left (by omega)] at h2
      simp only [g1, if_true]
      exact h.c j u c h1 h2
    · rw [List.getElem?_append_right (by omega)] at h1
      rw [List.getElem?_append_right (by omega), ← hl] at h2
      simp only [g1, if_false]
      exact k.c _ u c h1 h2
  · skip
    by_cases g1 : j < us.length
    · rw [if_pos g1] at h1
      by_cases g2 : j' < us.length
      · rw [if_pos g2] at h2; exact h.d j j' b h1 h2
      · rw [if_neg g2] at h2; exact (hdis _ _ _ h1 h2).elim
    · rw [if_neg g1] at h1
      by_cases g2 : j' < us.length
      · rw [if_pos g2] at h2; exact (hdis _ _ _ h2 h1).elim
      · rw [if_neg g2] at h2
        have := k.d _ _ b h1 h2
        omega
  · skip
    by_cases g1 : j < us.length
    · simp; omega
    · rw [if_neg g1] at h1
      have := k.b _ b h1
      simp; omega
/-- a source: a value and what it owns -/
inductive SrcS (σ : AS) : AV → List OC → Option Nat → Prop
  | d {x : DV} (h1 : x.one = true) : SrcS σ (.d x) ((dvCells x).map .dv) none
  | cv {x y : DV} (h : Cv x y) (h1 : y.one = true) : SrcS σ (.d x) ((dvCells y).map .dv) none
  | tr {q : Nat} {e : TypeId} {z : Nat} {rows : List (List DV)} (h : σ.n q = .tr e z (rows.map (·.map .dv))) : SrcS σ (.ow q) [.ow e z rows] (some q)
  | sv {q : Nat} {cs : List OC} (h : σ.n q = .sv cs) : SrcS σ (.ow q) cs (some q)
theorem flat_map_dv (rows : List (List DV)) : (rows.map (·.map OC.dv)).flatten = rows.flatten.map OC.dv := by
  induction rows with
  | nil => rfl
  | cons r rows ih => simp only [List.map_cons, List.flatten_cons, List.map_append, ih]
theorem Tcs.noDv {w : World} {U : Nat → Nat} {B : Nat} {us : List Value} {cs : List DV} {T : Nat → Nat → Prop} (h : Tcs w U B us (cs.map .dv) T) : Rc w U us cs ∧ ∀ k b, ¬ T k b := by
  have hl := h.l
  rw [List.length_map] at hl
  refine ⟨⟨⟨hl, fun j u x h1 h2 => (h.c j u (.dv x) h1 (by rw [List.getElem?_map, h2]; rfl)).1⟩, h.o⟩, fun k b hb => ?_⟩
  have hk := h.b k b hb
  have := h.c k _ (.dv (cs[k]'(by omega))) (List.getElem?_eq_getElem hk) (by rw [List.getElem?_map, List.getElem?_eq_getElem (by omega)]; rfl)
  exact this.2 b hb
theorem SrcS.get {σ σ' : AS} {a : Act} {w : World} {F : Fr} (hF : Fits w0 U0 σ' a w F) {av : AV} {ds : List OC} {kill : Option Nat} (h : SrcS σ av ds kill) (hrn : ∀ q, kill = some q → σ'.n q = σ.n q) {v : Value} (hv : Rav w F av v) :
    ∃ T, Tcs w F.U w0.heap.size v.cells.toList ds T ∧ (∀ k b, T k b → ∃ q, kill = some q ∧ (σ'.n q).live = true ∧ F.S q b) := by
  cases h with
  | d h1 => exact ⟨_, Tcs.ofRc (cells_of hv h1), fun _ _ h => h.elim⟩
  | cv h h1 => exact ⟨_, Tcs.ofRc (cells_of (h w F.U v hv) h1), fun _ _ h => h.elim⟩
  | @tr q e z rows h =>
    have hn := hrn q rfl
    have := hF.n q
    rw [hn, h] at this
    obtain ⟨xs, T, g1, g2, g3, g4, g5⟩ := this
    rw [flat_map_dv] at g2
    obtain ⟨k1, k2⟩ := g2.noDv
    have hv' : v = F.γ q := hv
    rw [List.length_map] at g1
    have hrz : ∀ r ∈ rows, r.length = z := fun r hr => by have := g3 (r.map OC.dv) (List.mem_map.2 ⟨r, hr, rfl⟩); simpa using this
    have hcs : v.cells.toList = [v] := by
      rw [hv']
      rcases g1.2 with ⟨h0, _⟩ | ⟨g, cap, cur, h0, _⟩ <;> rw [h0] <;> rfl
    refine ⟨fun k b => k = 0 ∧ (F.γ q).ownBlock = some b, ?_, fun k b hb => ⟨q, rfl, by rw [hn, h]; rfl, (g5 b).2 (.inl hb.2)⟩⟩
    rw [hcs]
    refine ⟨rfl, fun k u c h1 h2 => ?_, fun u hu => ?_, fun k k' b h1 h2 => by rw [h1.1, h2.1], fun k b h1 => by simp [h1.1]⟩
    · cases k with
      | zero =>
        simp at h1 h2
        subst h1 h2
        rw [hv']
        exact ⟨xs, g1, k1, hrz, fun b => by simp, fun b hb => (g4 b hb).1⟩
      | succ k => simp at h1
    · simp at hu
      subst hu
      rw [hv']
      rcases g1.2 with ⟨h0, _⟩ | ⟨g, cap, cur, h0, _⟩ <;> rw [h0] <;> rfl
  | @sv q cs h =>
    have hn := hrn q rfl
    have := hF.n q
    rw [hn, h] at this
    obtain ⟨vs, T, g1, g2, g3⟩ := this
    have hv' : v = F.γ q := hv
    refine ⟨T, by rw [hv', g1]; exact g2, fun k b hb => ⟨q, rfl, by rw [hn, h]; rfl, (g3 b).2 ⟨k, hb⟩⟩⟩
/-! ### addresses and loads in an own row -/
theorem tr_block {σ : AS} {a : Act} {w : World} {F : Fr} (hF : Fits w0 U0 σ a w F) {m : Nat} {e : TypeId} {z : Nat} {rows : List (List OC)} (h : σ.n m = .tr e z rows) (hpos : 0 < rows.length) :
    ∃ g cap cur xs T, F.γ m = .slice (some ⟨g, 0, none⟩) rows.length cap ∧ w0.heap.size ≤ g ∧ w.heap[g]? = some (.cells cur e (0, 0)) ∧ rows.length ≤ cap ∧ cur.size = cap * z ∧ cur.toList.take (rows.length * z) = xs ∧ w.ownsRow w0.heap.size e z (F.γ m) rows.length xs ∧ Tcs w F.U w0.heap.size xs rows.flatten T ∧ (∀ r ∈ rows, r.length = z) ∧ F.U g = 0 ∧ (∀ k, ¬ T k g) ∧ ∀ b, F.S m b ↔ (b = g ∨ ∃ k, T k b) := by
  have := hF.n m
  rw [h] at this
  obtain ⟨xs, T, g1, g2, g3, g4, g5⟩ := this
  rcases g1.2 with ⟨_, h0⟩ | ⟨g, cap, cur, h1, h2, h3, h4, h5, h6, h7⟩
  · omega
  · refine ⟨g, cap, cur, xs, T, h1, h2, h3, h4, h6, h7, g1, g2, g3, (g4 g (by rw [h1]; rfl)).1, (g4 g (by rw [h1]; rfl)).2, fun b => ?_⟩
    rw [g5 b, h1]
    constructor
    · rintro (h | h)
      · exact .inl (by simpa [Value.ownBlock] using h.symm)
      · exact .inr h
    · rintro (h | h)
      · exact .inl (by rw [h]; rfl)
      · exact .inr h
theorem op_index_tr {o : Oper} {σ : AS} {t : TypeId} {x y : Operand} (ho : o.op = .indexAddr t x y) {e : TypeId} (hu : P.underlying t = some (.slice e)) {zv : Value} {sz b : Nat} (hi : TI P e zv sz b) {m : Nat} {e' : TypeId} {rows : List (List OC)} (hx : σ.ev x = .ow m) (hm : σ.n m = .tr e' sz rows)
    {k : IntKind} {n : Nat} (hy : σ.ev y = .d (.fl (.int k n))) (hn : n < rows.length) (hd : dOk o N = true) : OpS P N w0 U0 o σ ⟨o.dst.map fun d => (d, .pe m sz n 0), [], [m], []⟩ :=
  opS_still (P := P) (av := .pe m sz n 0) hd fun σ' hok a w F hF => by
    obtain ⟨i, g1, _, g3, _⟩ := hi
    subst g3
    have hm' : σ'.n m = .tr e' i.size rows := by rw [hok.n m (by simp)]; exact hm
    obtain ⟨g, cap, cur, xs, T, h1, _⟩ := tr_block hF hm' (by omega)
    have hv : a.eval x = F.γ m := ev_get hok hF (x := x) (by simp [ho, Op.operands]) hx
    have h2 := Av.flat_val (ev_get hok hF (x := y) (by simp [ho, Op.operands]) hy)
    refine ⟨.pointer (some ⟨g, n * i.size, none⟩), ?_, g, by rw [h1]; rfl, by simp⟩
    rw [h1] at hv
    simp [execOp, ho, hv, h2, Instr.indexAt, run_underlying hu, asIntOf, sizeOf, typeInfo, g1, hn, add_plain']
theorem op_field_pe {o : Oper} {σ : AS} {s : TypeId} {x : Operand} {f : Nat} (ho : o.op = .fieldAddr s x f) {fs : Array Field} (hu : P.underlying s = some (.struct fs)) {fd : Field} (hf : fs[f]? = some fd) {zv : Value} {sz b : Nat} (hi : TI P fd.type zv sz b) (hz : Nat.blt 0 sz = true)
    {m z i j : Nat} (hx : σ.ev x = .pe m z i j) (hd : dOk o N = true) : OpS P N w0 U0 o σ ⟨o.dst.map fun d => (d, .pe m z i (j + fd.offset)), [], [], []⟩ :=
  opS_still (P := P) (av := .pe m z i (j + fd.offset)) hd fun σ' hok a w F hF => by
    obtain ⟨ti, g1, _, g3, _⟩ := hi
    have hz' := Nat.le_of_ble_eq_true hz
    obtain ⟨g, h1, h2⟩ := ev_get hok hF (x := x) (by simp [ho, Op.operands]) hx
    refine ⟨.pointer (some ⟨g, i * z + (j + fd.offset), none⟩), ?_, g, h1, rfl⟩
    have hne : ti.size ≠ 0 := by omega
    simp [execOp, ho, h2, Instr.fieldAt, run_underlying hu, hf, Instr.sureAddr, fieldPlace, sizeOf, typeInfo, g1, hne, add_plain', Nat.add_assoc]
end
end Go.Proofs.Yteplcjhnmmpicaa.Av
