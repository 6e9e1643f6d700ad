/- The rules at lists of typed elements. Conditions: as each theorem names them. -/
import Derived.Test.YteplcjhnmmpicaaAv8
set_option linter.unusedSimpArgs false
set_option linter.unusedVariables false
namespace Go.Proofs.Yteplcjhnmmpicaa.Av
open Go Go.RowKit
def ix {α : Type} [Inhabited α] (l : List α) (i : Nat) : α := l.getD i default
theorem ix_get {α : Type} [Inhabited α] {l : List α} {i : Nat} (h : i < l.length) : l[i]? = some (ix l i) := by
  unfold ix; simp [List.getD, List.getElem?_eq_getElem h]
theorem ix_mem {α : Type} [Inhabited α] {l : List α} {i : Nat} (h : i < l.length) : ix l i ∈ l := List.mem_of_getElem? (ix_get h)
theorem take_ix {α : Type} [Inhabited α] {l : List α} {i : Nat} (h : i < l.length) : l.take (i + 1) = l.take i ++ [ix l i] := by
  rw [List.take_succ_eq_append_getElem h]
  have := ix_get h
  rw [List.getElem?_eq_getElem h] at this
  injection this with this
  rw [this]
theorem drop_ix {α : Type} [Inhabited α] {l : List α} {i : Nat} (h : i < l.length) : l.drop i = ix l i :: l.drop (i + 1) := by
  rw [List.drop_eq_getElem_cons h]
  have := ix_get h
  rw [List.getElem?_eq_getElem h] at this
  injection this with this
  rw [this]
def rI (k : IntKind) (x : Int) : List DV := [.fl (.int k x)]
def rS (x : ByteArray) : List DV := [.fl (.string x)]
def rB (x : Bool) : List DV := [.fl (.bool x)]
def rL {α : Type} (z : Nat) (f : α → List DV) (x : List α) : List DV := [.sl z (x.map f)]
instance : Inhabited ByteArray := ⟨⟨#[]⟩⟩
theorem row_at {α : Type} [Inhabited α] {f : α → List DV} {l : List α} {k : Nat} (h : k < l.length) : (l.map f)[((k : Nat) : Int).toNat]? = some (f (ix l k)) := by
  rw [Int.toNat_natCast, List.getElem?_map, ix_get h]; rfl
theorem row_atI {α : Type} [Inhabited α] {f : α → List DV} {l : List α} {k : Int} (h0 : 0 ≤ k) (h : k < l.length) : (l.map f)[k.toNat]? = some (f (ix l k.toNat)) := by
  rw [List.getElem?_map, ix_get (by omega)]; rfl
theorem byte_at {s : ByteArray} {k : Nat} (h : k < s.size) : s[((k : Nat) : Int).toNat]? = some s[k] := by
  simp [h]
def bt (s : ByteArray) (i : Nat) : UInt8 := s.data.toList.getD i 0
theorem byte_ix {s : ByteArray} {k : Nat} (h : k < s.size) : s[((k : Nat) : Int).toNat]? = some (bt s k) := by
  have h' : k < s.data.size := by simpa using h
  rw [byte_at h]
  unfold bt
  simp [List.getD, Array.getElem?_eq_getElem h']
  rfl
theorem fot (b : Bool) : b = false ∨ b = true := by cases b <;> simp
/-! ### truths -/
theorem t_dec {p : Prop} [Decidable p] (h : decide p = true) : p := of_decide_eq_true h
theorem f_dec {p : Prop} [Decidable p] (h : decide p = false) : ¬ p := of_decide_eq_false h
theorem t_not {x : Bool} (h : (!x) = true) : x = false := by simpa using h
theorem f_not {x : Bool} (h : (!x) = false) : x = true := by simpa using h
theorem t_beq {a b : Int} (h : (a == b) = true) : a = b := by simpa using h
theorem f_beq {a b : Int} (h : (a == b) = false) : a ≠ b := by simpa using h
theorem t_bne {a b : Int} (h : (a != b) = true) : a ≠ b := by simpa using h
theorem f_bne {a b : Int} (h : (a != b) = false) : a = b := by simpa using h
theorem t_seq {s u : ByteArray} (h : sEq s u = true) : s = u := of_decide_eq_true h
theorem f_seq {s u : ByteArray} (h : sEq s u = false) : s ≠ u := of_decide_eq_false h
theorem t_ii {a b : Int} (h : a = b) : (a == b) = true := by simpa using h
theorem not_f {x : Bool} (h : x = true) : (!x) = false := by simp [h]
theorem not_t' {x : Bool} (h : x = false) : (!x) = true := by simp [h]
/-! ### numbers that are spelled otherwise -/
theorem ci {ρ : Nat → Nat} {k : IntKind} {a b : Int} (h : a = b) : AV.d (.fl (.int k a)) = renA ρ (AV.d (.fl (.int k b))) := by rw [h]; rfl
theorem cd {ρ : Nat → Nat} {a b : DV} (h : a = b) : AV.d a = renA ρ (AV.d b) := by rw [h]; rfl
section
variable {P : Program} {N : Nat} {w0 : World} {U0 : Nat → Nat} {o : Oper} {σ : AS}
theorem s_field_el {s : TypeId} {x : Operand} {f : Nat} (ho : o.op = .fieldAddr s x f) {fs : Array Field} (hu : P.underlying s = some (.struct fs)) {fd : Field} (hf : fs[f]? = some fd) {z : Value} {sz b : Nat} (hi : TI P fd.type z sz b) (hz : Nat.blt 0 sz = true)
    {cs : List DV} (hx : σ.ev x = .el cs) (hd : dOk o N = true) : OpS P N w0 U0 o σ ⟨o.dst.map fun d => (d, .el (cs.drop fd.offset)), [], [], []⟩ := by
  obtain ⟨i, g1, _, g3, _⟩ := hi
  have := Nat.le_of_ble_eq_true hz
  exact op_field_el ho hu hf g1 (by omega) hx hd
theorem s_field_pt {s : TypeId} {x : Operand} {f : Nat} (ho : o.op = .fieldAddr s x f) {fs : Array Field} (hu : P.underlying s = some (.struct fs)) {fd : Field} (hf : fs[f]? = some fd) {z : Value} {sz b : Nat} (hi : TI P fd.type z sz b) (hz : Nat.blt 0 sz = true)
    {m p : Nat} (hx : σ.ev x = .pt m p) (hd : dOk o N = true) : OpS P N w0 U0 o σ ⟨o.dst.map fun d => (d, .pt m (p + fd.offset)), [], [], []⟩ := by
  obtain ⟨i, g1, _, g3, _⟩ := hi
  have := Nat.le_of_ble_eq_true hz
  exact op_field_pt ho hu hf g1 (by omega) hx hd
theorem s_index {t : TypeId} {x y : Operand} (ho : o.op = .indexAddr t x y) {e : TypeId} (hu : P.underlying t = some (.slice e)) {z : Value} {sz b : Nat} (hi : TI P e z sz b) {rows : List (List DV)} (hx : σ.ev x = .d (.sl sz rows))
    {k : IntKind} {n : Int} (hy : σ.ev y = .d (.fl (.int k n))) {r : List DV} (h0 : 0 ≤ n) (hr : rows[n.toNat]? = some r) (hd : dOk o N = true) : OpS P N w0 U0 o σ ⟨o.dst.map fun d => (d, .el r), [], [], []⟩ := by
  obtain ⟨i, g1, _, g3, _⟩ := hi
  subst g3
  exact op_index ho hu g1 hx hy h0 hr hd
theorem s_index_ow {t : TypeId} {x y : Operand} (ho : o.op = .indexAddr t x y) {e : TypeId} (hu : P.underlying t = some (.slice e)) {z : Value} {sz b : Nat} (hi : TI P e z sz b) {m : Nat} {e' : TypeId} {rows : List (List DV)} (hx : σ.ev x = .ow m) (hm : σ.n m = .ow e' sz rows)
    {k : IntKind} {n : Int} (hy : σ.ev y = .d (.fl (.int k n))) {r : List DV} (h0 : 0 ≤ n) (hr : rows[n.toNat]? = some r) (hd : dOk o N = true) : OpS P N w0 U0 o σ ⟨o.dst.map fun d => (d, .el r), [], [m], []⟩ := by
  obtain ⟨i, g1, _, g3, _⟩ := hi
  subst g3
  exact op_index_ow ho hu g1 hx hm hy h0 hr hd
theorem s_load_els {t : TypeId} {x : Operand} (ho : o.op = .load t x) {d : TypeDesc} (hu : P.underlying t = some d) (ha : aggD d = true) {z : Value} {sz b : Nat} (hi : TI P t z sz b) {cs : List DV} (hx : σ.ev x = .el cs) (hl : Nat.ble sz cs.length = true) (hd : dOk o N = true) : OpS P N w0 U0 o σ ⟨o.dst.map fun d => (d, .d (.ag (cs.take sz))), [], [], []⟩ := by
  obtain ⟨i, g1, _, g3, _⟩ := hi
  subst g3
  exact op_load_els ho hu ha g1 hx (Nat.le_of_ble_eq_true hl) hd
theorem s_load_pts {t : TypeId} {x : Operand} (ho : o.op = .load t x) {d : TypeDesc} (hu : P.underlying t = some d) (ha : aggD d = true) {z : Value} {sz b : Nat} (hi : TI P t z sz b) {m p : Nat} (hx : σ.ev x = .pt m p) {ty : TypeId} {cs : List DV} (hm : σ.n m = .bx ty cs) (hl : Nat.ble (p + sz) cs.length = true) (hd : dOk o N = true) : OpS P N w0 U0 o σ ⟨o.dst.map fun d => (d, .d (.ag ((cs.drop p).take sz))), [], [m], []⟩ := by
  obtain ⟨i, g1, _, g3, _⟩ := hi
  subst g3
  exact op_load_pts ho hu ha g1 hx hm (Nat.le_of_ble_eq_true hl) hd
theorem s_alloc {ty : TypeId} (m : Nat) (ho : o.op = .alloc ty) {z : Value} {sz b : Nat} (hi : TI P ty z sz b) (h1 : (z.cells.all fun u => u.oneCell') = true) (hd : dOk o N = true) : OpS P N w0 U0 o σ ⟨o.dst.map fun d => (d, .pt m 0), [(m, .bx ty (zeroDV z))], [], [m]⟩ := by
  obtain ⟨i, g1, g2, _, _⟩ := hi
  exact op_alloc m ho g1 g2 h1 hd
theorem s_store {t : TypeId} {x y : Operand} (ho : o.op = .store t x y) (hdn : o.dst = none) {z : Value} {sz b : Nat} (hi : TI P t z sz b) {m p : Nat} (hx : σ.ev x = .pt m p) {ty : TypeId} {cs : List DV} (hm : σ.n m = .bx ty cs) {v : DV} (hy : σ.ev y = .d v) (h1 : v.one = true)
    (hsz : Nat.beq (dvCells v).length sz = true) (hl : Nat.ble (p + sz) cs.length = true) : OpS P N w0 U0 o σ ⟨none, [(m, .bx ty (cs.take p ++ dvCells v ++ cs.drop (p + (dvCells v).length)))], [m], []⟩ := by
  obtain ⟨i, g1, _, g3, _⟩ := hi
  subst g3
  exact op_store ho hdn g1 hx hm hy h1 (Nat.eq_of_beq_eq_true hsz) (Nat.le_of_ble_eq_true hl)
theorem s_len {t e : TypeId} {x : Operand} (ho : o.op = .call { callee := .builtin .len, args := #[x], argTypes := #[t] }) (hu : P.underlying t = some (.slice e)) {z : Nat} {α : Type} {f : α → List DV} {l : List α} (hx : σ.ev x = .d (.sl z (l.map f))) (hd : dOk o N = true) : OpS P N w0 U0 o σ ⟨o.dst.map fun d => (d, .d (.fl (.int .i64 l.length))), [], [], []⟩ := by
  have := op_len (P := P) (N := N) (w0 := w0) (U0 := U0) ho hu hx hd
  rwa [List.length_map] at this
theorem s_len_ow {t e : TypeId} {x : Operand} (ho : o.op = .call { callee := .builtin .len, args := #[x], argTypes := #[t] }) (hu : P.underlying t = some (.slice e)) {m : Nat} {e' : TypeId} {z : Nat} {α : Type} {f : α → List DV} {l : List α} (hx : σ.ev x = .ow m) (hm : σ.n m = .ow e' z (l.map f)) (hd : dOk o N = true) : OpS P N w0 U0 o σ ⟨o.dst.map fun d => (d, .d (.fl (.int .i64 l.length))), [], [m], []⟩ := by
  have := op_len_ow (P := P) (N := N) (w0 := w0) (U0 := U0) ho hu hx hm hd
  rwa [List.length_map] at this
theorem s_append {t e : TypeId} {s x : Operand} (m : Nat) (ho : o.op = .call { callee := .builtin .append, args := #[s, x], argTypes := #[t, t] })
    {zv : Value} {sz b : Nat} (ht : P.underlying t = some (.slice e)) (hi : TI P e zv sz b) (hzs : Nat.beq zv.cells.size sz = true) (hz0 : Nat.blt 0 sz = true) {m0 : Nat} {α : Type} {f : α → List DV} {l l' : List α} {rn : List Nat} {av : AV}
    (hs : σ.ev s = .ow m0) (hm : σ.n m0 = .ow e sz (l.map f)) (hx : σ.ev x = av) (hxv : AvD σ av (.sl sz (l'.map f)) rn) (hbytes : (l.length + l'.length) * (b + 1) ≤ 140737488355328) (hd : dOk o N = true) :
    OpS P N w0 U0 o σ ⟨o.dst.map fun d => (d, .ow m), [(m, .ow e sz ((l ++ l').map f)), (m0, .no)], m0 :: rn, [m]⟩ := by
  obtain ⟨i, g1, g2, g3, g4⟩ := hi
  subst g3
  subst g4
  have h1 : (l.length + l'.length) * 1 ≤ (l.length + l'.length) * (i.bytes + 1) := Nat.mul_le_mul_left _ (by omega)
  have h2 : (l.length + l'.length) * i.bytes ≤ (l.length + l'.length) * (i.bytes + 1) := Nat.mul_le_mul_left _ (by omega)
  have := op_append (P := P) (N := N) (w0 := w0) (U0 := U0) m ho ht g1 g2 hzs hz0 hs hm (by rw [hx]; exact hxv) (by simp only [List.length_map]; omega) (by simp only [List.length_map]; omega) hd
  rwa [← List.map_append] at this
theorem s_append_nil {t e : TypeId} {s x : Operand} (m : Nat) (ho : o.op = .call { callee := .builtin .append, args := #[s, x], argTypes := #[t, t] })
    {zv : Value} {sz b : Nat} (ht : P.underlying t = some (.slice e)) (hi : TI P e zv sz b) (hzs : Nat.beq zv.cells.size sz = true) (hz0 : Nat.blt 0 sz = true) {α : Type} {f : α → List DV} {l' : List α} {rn : List Nat} {av : AV}
    (hs : σ.ev s = .d (.fl (.slice none 0 0))) (hx : σ.ev x = av) (hxv : AvD σ av (.sl sz (l'.map f)) rn) (hbytes : l'.length * (b + 1) ≤ 140737488355328) (hd : dOk o N = true) :
    OpS P N w0 U0 o σ ⟨o.dst.map fun d => (d, .ow m), [(m, .ow e sz (l'.map f))], rn, [m]⟩ := by
  obtain ⟨i, g1, g2, g3, g4⟩ := hi
  subst g3
  subst g4
  have h1 : l'.length * 1 ≤ l'.length * (i.bytes + 1) := Nat.mul_le_mul_left _ (by omega)
  have h2 : l'.length * i.bytes ≤ l'.length * (i.bytes + 1) := Nat.mul_le_mul_left _ (by omega)
  exact op_append_nil (P := P) (N := N) (w0 := w0) (U0 := U0) m ho ht g1 g2 hzs hz0 hs (by rw [hx]; exact hxv) (by simp only [List.length_map]; omega) (by simp only [List.length_map]; omega) hd
end
end Go.Proofs.Yteplcjhnmmpicaa.Av
