/- What each operation does to the state. Conditions: as each theorem names them. -/
import Derived.Test.YteplcjhnmmpicaaAv3
import Derived.Laws.Cells
import Derived.Laws.Rows
import Derived.Laws.Tables
import Derived.Laws.AppendOwn
set_option linter.unusedSimpArgs false
set_option linter.unusedVariables false
namespace Go.Proofs.Yteplcjhnmmpicaa.Av
open Go Go.RowKit
section
variable {P : Program} {N : Nat} {w0 : World} {U0 : Nat → Nat}
def dOk (o : Oper) (N : Nat) : Bool := match o.dst with | some d => Nat.blt d N | none => true
theorem put_get {a : Act} {d : Nat} {v : Value} (h : d < a.tmps.size) (t : Nat) : (a.put (some d) v).tmps.getD t undef = if d = t then v else a.tmps.getD t undef := by
  show (a.tmps.setIfInBounds d v).getD t undef = _
  by_cases hd : d = t
  · subst hd; simp [h]
  · simp [Array.getElem?_setIfInBounds_ne hd, hd]
/-- a value is put, in a world that has grown -/
theorem Fits.put {σ : AS} {a : Act} {w w' : World} {F : Fr} {U' : Nat → Nat} (h : Fits w0 U0 σ a w F) (hs : w0.heap.size ≤ w.heap.size) (hu : Up w F.U w' U') {o : Oper} (hd : dOk o N = true) (hN : a.tmps.size = N) {av : AV} {v : Value} (hv : Rav w' { F with U := U' } av v) (rn fr : List Nat) :
    Fits w0 U0 ((⟨o.dst.map fun d => (d, av), [], rn, fr⟩ : Eff).ap σ) (a.put o.dst v) w' { F with U := U' } := by
  have h2 := h.up hs hu
  refine ⟨h2.u, fun t => ?_, h2.n, h2.i⟩
  cases hdd : o.dst with
  | none => exact h2.t t
  | some d =>
    rw [put_get (by unfold dOk at hd; rw [hdd] at hd; simp only at hd; have := Nat.le_of_ble_eq_true hd; omega)]
    show Rav w' _ (bif Nat.beq d t then av else σ.t t) _
    by_cases he : d = t
    · subst he; rw [Nat.beq_refl, if_pos rfl]; exact hv
    · rw [nbeq he, if_neg he]; exact h2.t t
theorem opS_val {o : Oper} {σ : AS} {av : AV} {rn : List Nat} (hd : dOk o N = true)
    (h : ∀ σ', (⟨o.dst.map fun d => (d, av), [], rn, []⟩ : Eff).ok o σ σ' → ∀ a w F, Fits w0 U0 σ' a w F → w0.heap.size ≤ w.heap.size →
      ∃ v w' U', (execOp a.eval o).run P w = .ok (.value v) w' ∧ Below w.heap.size w w' ∧ (∀ b, b < w.heap.size → U' b = F.U b) ∧ Rav w' { F with U := U' } av v) :
    OpS P N w0 U0 o σ ⟨o.dst.map fun d => (d, av), [], rn, []⟩ := by
  intro σ' hok a w hs K Q hK
  obtain ⟨F, hF⟩ := hs.f
  obtain ⟨v, w', U', hr, hb, hu, hv⟩ := h σ' hok a w F hF hs.b.size
  unfold Oper.wp
  rw [hr]
  refine hK _ _ ⟨by rw [put_defers]; exact hs.d, by rw [put_size]; exact hs.s, hs.b.trans (hb.mono hs.b.size), _, hF.put hs.b.size ⟨hb.block, hu⟩ hd hs.s hv rn []⟩
/-- the value alone, of the operands' values -/
theorem opS_still {o : Oper} {σ : AS} {av : AV} {rn : List Nat} (hd : dOk o N = true)
    (h : ∀ σ', (⟨o.dst.map fun d => (d, av), [], rn, []⟩ : Eff).ok o σ σ' → ∀ a w F, Fits w0 U0 σ' a w F → ∃ v, (execOp a.eval o).run P w = .ok (.value v) w ∧ Rav w F av v) :
    OpS P N w0 U0 o σ ⟨o.dst.map fun d => (d, av), [], rn, []⟩ :=
  opS_val hd fun σ' hok a w F hF _ => by
    obtain ⟨v, h1, h2⟩ := h σ' hok a w F hF
    exact ⟨v, w, F.U, h1, Below.refl _ _, fun _ _ => rfl, h2⟩
theorem ev_get {o : Oper} {e : Eff} {σ σ' : AS} {a : Act} {w : World} {F : Fr} (hok : e.ok o σ σ') (hF : Fits w0 U0 σ' a w F) {x : Operand} (hx : x ∈ o.op.operands) {v : AV} (h : σ.ev x = v) : Rav w F v (a.eval x) := by
  have := hF.ev x
  rw [ev_ok hok hx, h] at this
  exact this
theorem flat_val {w : World} {F : Fr} {x v : Value} (h : Rav w F (.d (.fl x)) v) : v = x := by cases h; rfl
/-! ### moves -/
theorem op_move {o : Oper} {σ : AS} {x : Operand} (ho : o.op = .move x) {v : AV} (hx : σ.ev x = v) (hd : dOk o N = true) : OpS P N w0 U0 o σ ⟨o.dst.map fun d => (d, v), [], [], []⟩ :=
  opS_still hd fun σ' hok a w F hF => ⟨a.eval x, by simp [execOp, ho], ev_get hok hF (by simp [ho, Op.operands]) hx⟩
theorem op_assign {o : Oper} {σ : AS} {x : Operand} (ho : o.op = .assign x) {v : AV} (hx : σ.ev x = v) (hd : dOk o N = true) : OpS P N w0 U0 o σ ⟨o.dst.map fun d => (d, v), [], [], []⟩ :=
  opS_still hd fun σ' hok a w F hF => ⟨a.eval x, by simp [execOp, ho], ev_get hok hF (by simp [ho, Op.operands]) hx⟩
theorem op_pick {o : Oper} {σ : AS} {c x y : Operand} (ho : o.op = .pick c x y) {b : Bool} (hc : σ.ev c = .d (.fl (.bool b))) {v : AV} (hx : (bif b then σ.ev x else σ.ev y) = v) (hd : dOk o N = true) : OpS P N w0 U0 o σ ⟨o.dst.map fun d => (d, v), [], [], []⟩ :=
  opS_still hd fun σ' hok a w F hF => by
    have h1 := flat_val (ev_get hok hF (x := c) (by simp [ho, Op.operands]) hc)
    cases b with
    | true => exact ⟨a.eval x, by simp [execOp, ho, h1, asBool], ev_get hok hF (by simp [ho, Op.operands]) hx⟩
    | false => exact ⟨a.eval y, by simp [execOp, ho, h1, asBool], ev_get hok hF (by simp [ho, Op.operands]) hx⟩
/-! ### flat operations -/
theorem op_bin {o : Oper} {σ : AS} {op : BinOp} {t t' : TypeId} {x y : Operand} (ho : o.op = .binOp op t x y t') {a b v : Value} (hx : σ.ev x = .d (.fl a)) (hy : σ.ev y = .d (.fl b))
    (hv : ∀ (x y : Operand) (w : World), (do eqGuard op t x y a b; binOp op t a b : Sem Value).run P w = .ok v w) (hd : dOk o N = true) : OpS P N w0 U0 o σ ⟨o.dst.map fun d => (d, .d (.fl v)), [], [], []⟩ :=
  opS_still hd fun σ' hok ac w F hF => by
    have h1 := flat_val (ev_get hok hF (x := x) (by simp [ho, Op.operands]) hx)
    have h2 := flat_val (ev_get hok hF (x := y) (by simp [ho, Op.operands]) hy)
    refine ⟨v, ?_, .fl v⟩
    unfold execOp
    simp only [ho, Sem.run_bind, h1, h2]
    have := hv x y w
    simp only [Sem.run_bind] at this
    rw [this]
    rfl
theorem op_un {o : Oper} {σ : AS} {op : UnOp} {t : TypeId} {x : Operand} (ho : o.op = .unOp op t x) {a v : Value} (hx : σ.ev x = .d (.fl a)) (hv : ∀ w : World, (Op.unary op a).run P w = .ok v w) (hd : dOk o N = true) : OpS P N w0 U0 o σ ⟨o.dst.map fun d => (d, .d (.fl v)), [], [], []⟩ :=
  opS_still hd fun σ' hok ac w F hF => by
    have h1 := flat_val (ev_get hok hF (x := x) (by simp [ho, Op.operands]) hx)
    refine ⟨v, ?_, .fl v⟩
    unfold execOp
    simp only [ho, Sem.run_bind, h1, hv w]
    rfl
section
variable (t : TypeId) (k : IntKind) (a b : Int) (c d : Bool) (s u : ByteArray) (x y : Operand) (w : World)
theorem b_eql : (do eqGuard .eql t x y (.int k a) (.int k b); binOp .eql t (.int k a) (.int k b) : Sem Value).run P w = .ok (.bool (a == b)) w := by simp [eqGuard, binOp, Op.intCmp]
theorem b_neq : (do eqGuard .neq t x y (.int k a) (.int k b); binOp .neq t (.int k a) (.int k b) : Sem Value).run P w = .ok (.bool (a != b)) w := by simp [eqGuard, binOp, Op.intCmp]
theorem b_lss : (do eqGuard .lss t x y (.int k a) (.int k b); binOp .lss t (.int k a) (.int k b) : Sem Value).run P w = .ok (.bool (decide (a < b))) w := by simp [eqGuard, binOp, Op.intCmp]
theorem b_leq : (do eqGuard .leq t x y (.int k a) (.int k b); binOp .leq t (.int k a) (.int k b) : Sem Value).run P w = .ok (.bool (decide (a ≤ b))) w := by simp [eqGuard, binOp, Op.intCmp]
theorem b_gtr : (do eqGuard .gtr t x y (.int k a) (.int k b); binOp .gtr t (.int k a) (.int k b) : Sem Value).run P w = .ok (.bool (decide (b < a))) w := by simp [eqGuard, binOp, Op.intCmp]
theorem b_geq : (do eqGuard .geq t x y (.int k a) (.int k b); binOp .geq t (.int k a) (.int k b) : Sem Value).run P w = .ok (.bool (decide (b ≤ a))) w := by simp [eqGuard, binOp, Op.intCmp]
theorem b_add : (do eqGuard .add t x y (.int k a) (.int k b); binOp .add t (.int k a) (.int k b) : Sem Value).run P w = .ok (.int k (k.wrap (a + b))) w := by simp [eqGuard, binOp, Op.intArith]
theorem b_sub : (do eqGuard .sub t x y (.int k a) (.int k b); binOp .sub t (.int k a) (.int k b) : Sem Value).run P w = .ok (.int k (k.wrap (a - b))) w := by simp [eqGuard, binOp, Op.intArith]
theorem b_mul : (do eqGuard .mul t x y (.int k a) (.int k b); binOp .mul t (.int k a) (.int k b) : Sem Value).run P w = .ok (.int k (k.wrap (a * b))) w := by simp [eqGuard, binOp, Op.intArith]
theorem w64 {r : Int} (h : -9223372036854775808 ≤ r ∧ r ≤ 9223372036854775807) : IntKind.i64.wrap r = r := IntWalk.i64_in _ h
theorem b_add64 (h : -9223372036854775808 ≤ a + b ∧ a + b ≤ 9223372036854775807) : (do eqGuard .add t x y (.int .i64 a) (.int .i64 b); binOp .add t (.int .i64 a) (.int .i64 b) : Sem Value).run P w = .ok (.int .i64 (a + b)) w := by rw [b_add, w64 h]
theorem b_sub64 (h : -9223372036854775808 ≤ a - b ∧ a - b ≤ 9223372036854775807) : (do eqGuard .sub t x y (.int .i64 a) (.int .i64 b); binOp .sub t (.int .i64 a) (.int .i64 b) : Sem Value).run P w = .ok (.int .i64 (a - b)) w := by rw [b_sub, w64 h]
theorem b_mul64 (h : -9223372036854775808 ≤ a * b ∧ a * b ≤ 9223372036854775807) : (do eqGuard .mul t x y (.int .i64 a) (.int .i64 b); binOp .mul t (.int .i64 a) (.int .i64 b) : Sem Value).run P w = .ok (.int .i64 (a * b)) w := by rw [b_mul, w64 h]
/-- two strings are equal -/
def sEq (s u : ByteArray) : Bool := decide (s = u)
theorem toList_sEq (s u : ByteArray) : (s.toList == u.toList) = sEq s u := by
  unfold sEq
  by_cases h : s = u
  · subst h; simp
  · rw [decide_eq_false h]
    simp only [beq_eq_false_iff_ne]
    intro hl
    rw [ByteArray.toList_eq, ByteArray.toList_eq] at hl
    exact h (by
      obtain ⟨⟨a⟩⟩ := s
      obtain ⟨⟨b⟩⟩ := u
      simp at hl
      rw [hl])
theorem b_seq : (do eqGuard .eql t x y (.string s) (.string u); binOp .eql t (.string s) (.string u) : Sem Value).run P w = .ok (.bool (sEq s u)) w := by simp [eqGuard, binOp, Op.stringOp, ← toList_sEq]
theorem b_sne : (do eqGuard .neq t x y (.string s) (.string u); binOp .neq t (.string s) (.string u) : Sem Value).run P w = .ok (.bool (!sEq s u)) w := by simp [eqGuard, binOp, Op.stringOp, ← toList_sEq]
theorem equalIn_bool (n : Nat) (h : P.underlying t = some .bool) : (Op.equalIn (n + 1) t (.bool c) (.bool d)).run P w = .ok (c == d) w := by
  unfold Op.equalIn
  rw [Sem.run_bind, run_underlying h]
  rfl
theorem b_beq (h : P.underlying t = some .bool) : (do eqGuard .eql t x y (.bool c) (.bool d); binOp .eql t (.bool c) (.bool d) : Sem Value).run P w = .ok (.bool (c == d)) w := by
  have h2 : (Op.equal t (.bool c) (.bool d)).run P w = .ok (c == d) w := equalIn_bool t c d w 9999 h
  simp [eqGuard, binOp, h2]
theorem b_bne (h : P.underlying t = some .bool) : (do eqGuard .neq t x y (.bool c) (.bool d); binOp .neq t (.bool c) (.bool d) : Sem Value).run P w = .ok (.bool (!(c == d))) w := by
  have h2 : (Op.equal t (.bool c) (.bool d)).run P w = .ok (c == d) w := equalIn_bool t c d w 9999 h
  simp [eqGuard, binOp, h2]
theorem u_not : (Op.unary .not (.bool c)).run P w = .ok (.bool (!c)) w := by simp [Op.unary]
end
/-! ### tuples -/
theorem op_extract {o : Oper} {σ : AS} {x : Operand} {i : Nat} (ho : o.op = .extract x i) {cs : List DV} (hx : σ.ev x = .tu cs) {v : DV} (hv : cs[i]? = some v) (hd : dOk o N = true) : OpS P N w0 U0 o σ ⟨o.dst.map fun d => (d, .d v), [], [], []⟩ :=
  opS_still hd fun σ' hok a w F hF => by
    obtain ⟨vs, h1, h2⟩ := ev_get hok hF (x := x) (by simp [ho, Op.operands]) hx
    have hlt : i < cs.length := (List.getElem?_eq_some_iff.1 hv).1
    have hl := h2.1
    obtain ⟨u, hu⟩ : ∃ u, vs.toList[i]? = some u := ⟨_, List.getElem?_eq_getElem (by omega)⟩
    refine ⟨u, ?_, h2.2 i u v hu hv⟩
    have hu' : vs[i]? = some u := by simpa using hu
    simp [execOp, ho, h1, Instr.extract, hu']
/-! ### addresses -/
theorem add_plain' (b o j : Nat) : (⟨b, o, none⟩ : Addr).add j = ⟨b, o + j, none⟩ := by
  unfold Addr.add
  by_cases h : j = 0 <;> simp [h]
theorem op_field_el {o : Oper} {σ : AS} {s : TypeId} {x : Operand} {f : Nat} (ho : o.op = .fieldAddr s x f) {fs : Array Field} (hu : P.underlying s = some (.struct fs)) {fd : Field} (hf : fs[f]? = some fd) {i : TypeInfo} (hi : P.info? fd.type = some i) (hz : i.size ≠ 0)
    {cs : List DV} (hx : σ.ev x = .el cs) (hd : dOk o N = true) : OpS P N w0 U0 o σ ⟨o.dst.map fun d => (d, .el (cs.drop fd.offset)), [], [], []⟩ :=
  opS_still hd fun σ' hok a w F hF => by
    obtain ⟨b, off, h1, h2⟩ := elD (ev_get hok hF (x := x) (by simp [ho, Op.operands]) hx)
    refine ⟨.pointer (some ⟨b, off + fd.offset, none⟩), ?_, elM fun j y hy => ?_⟩
    · simp [execOp, ho, h1, Instr.fieldAt, run_underlying hu, hf, Instr.sureAddr, fieldPlace, sizeOf, typeInfo, hi, hz, add_plain']
    · rw [List.getElem?_drop] at hy
      rw [Nat.add_assoc]
      exact h2 _ y hy
theorem op_field_pt {o : Oper} {σ : AS} {s : TypeId} {x : Operand} {f : Nat} (ho : o.op = .fieldAddr s x f) {fs : Array Field} (hu : P.underlying s = some (.struct fs)) {fd : Field} (hf : fs[f]? = some fd) {i : TypeInfo} (hi : P.info? fd.type = some i) (hz : i.size ≠ 0)
    {m p : Nat} (hx : σ.ev x = .pt m p) (hd : dOk o N = true) : OpS P N w0 U0 o σ ⟨o.dst.map fun d => (d, .pt m (p + fd.offset)), [], [], []⟩ :=
  opS_still hd fun σ' hok a w F hF => by
    obtain ⟨b, h1, h2⟩ := ev_get hok hF (x := x) (by simp [ho, Op.operands]) hx
    refine ⟨.pointer (some ⟨b, p + fd.offset, none⟩), ?_, b, h1, rfl⟩
    simp [execOp, ho, h2, Instr.fieldAt, run_underlying hu, hf, Instr.sureAddr, fieldPlace, sizeOf, typeInfo, hi, hz, add_plain']
theorem cellAt_some {rows : List (List DV)} {i j : Nat} {r : List DV} {x : DV} (hr : rows[i]? = some r) (hx : r[j]? = some x) : cellAt rows i j = some x := by
  unfold cellAt; rw [hr]; exact hx
/-- an element's address -/
theorem elem_at {w : World} {F : Fr} {z n c : Nat} {A : Option Addr} {rows : List (List DV)} (h : Rd w F.U (.slice A n c) (.sl z rows)) {i : Nat} {r : List DV} (hr : rows[i]? = some r) :
    ∃ b off, A = some ⟨b, off, none⟩ ∧ i < n ∧ Rav w F (.el r) (.pointer (some ⟨b, off + i * z, none⟩)) := by
  cases h with
  | sn => simp at hr
  | sl b off _ _ _ _ u hn hz hm hcell hrr =>
    refine ⟨b, off, rfl, by have := (List.getElem?_eq_some_iff.1 hr).1; omega, elM fun j x hx => ?_⟩
    obtain ⟨h1, h2, h3⟩ := hcell i j x (cellAt_some hr hx)
    exact ⟨_, h1, h2, h3, hrr i j x (cellAt_some hr hx)⟩
theorem op_index {o : Oper} {σ : AS} {t : TypeId} {x y : Operand} (ho : o.op = .indexAddr t x y) {e : TypeId} (hu : P.underlying t = some (.slice e)) {i : TypeInfo} (hi : P.info? e = some i) {rows : List (List DV)} (hx : σ.ev x = .d (.sl i.size rows))
    {k : IntKind} {n : Int} (hy : σ.ev y = .d (.fl (.int k n))) {r : List DV} (h0 : 0 ≤ n) (hr : rows[n.toNat]? = some r) (hd : dOk o N = true) : OpS P N w0 U0 o σ ⟨o.dst.map fun d => (d, .el r), [], [], []⟩ :=
  opS_still hd fun σ' hok a w F hF => by
    have h1 : Rd w F.U (a.eval x) _ := ev_get hok hF (x := x) (by simp [ho, Op.operands]) hx
    have h2 := flat_val (ev_get hok hF (x := y) (by simp [ho, Op.operands]) hy)
    obtain ⟨A, ln, c, hv⟩ : ∃ A ln c, a.eval x = .slice A ln c := by
      generalize a.eval x = v at h1
      cases h1 with
      | sn A c z => exact ⟨A, 0, c, rfl⟩
      | sl b off n c z rows u => exact ⟨_, n, c, rfl⟩
    rw [hv] at h1
    obtain ⟨b, off, rfl, hlt, h3⟩ := elem_at h1 hr
    refine ⟨_, ?_, h3⟩
    have hlt' : n < (ln : Int) := by omega
    simp [execOp, ho, hv, h2, Instr.indexAt, run_underlying hu, asIntOf, sizeOf, typeInfo, hi, h0, hlt', add_plain']
/-! ### loads -/
def aggD (d : TypeDesc) : Bool := match d with | .struct _ | .array _ _ => true | _ => false
theorem run_isAgg' {t : TypeId} {d : TypeDesc} (h : P.underlying t = some d) (w : World) : (isAgg t).run P w = .ok (aggD d) w := by
  unfold isAgg
  rw [Sem.run_bind, run_underlying h w]
  cases d <;> rfl
theorem run_load_one {t : TypeId} {d : TypeDesc} (h : P.underlying t = some d) (hd : aggD d = false) {w : World} {b o : Nat} {u : Value} (hc : w.cell? ⟨b, o, none⟩ = some u) : (loadVar t ⟨b, o, none⟩).run P w = .ok u w := by
  unfold loadVar
  rw [Sem.run_bind, run_isAgg' h w, hd]
  simp [load, Sem.run, hc]
theorem run_load_many {t : TypeId} {d : TypeDesc} (h : P.underlying t = some d) (hd : aggD d = true) {i : TypeInfo} (hi : P.info? t = some i) {w : World} {b o : Nat} {us : List Value} (hl : us.length = i.size) (hc : ∀ j u, us[j]? = some u → w.cell? ⟨b, o + j, none⟩ = some u) :
    (loadVar t ⟨b, o, none⟩).run P w = .ok (.agg us.toArray) w := by
  have := run_loadCells_list (P := P) w ⟨b, o, none⟩ us (fun j v hv => by rw [add_plain']; exact hc j v hv)
  rw [hl] at this
  unfold loadVar
  rw [Sem.run_bind, run_isAgg' h w, hd]
  simp [sizeOf, typeInfo, hi, this]
theorem op_load_el {o : Oper} {σ : AS} {t : TypeId} {x : Operand} (ho : o.op = .load t x) {d : TypeDesc} (hu : P.underlying t = some d) (ha : aggD d = false) {cs : List DV} (hx : σ.ev x = .el cs) {v : DV} (hv : cs[0]? = some v) (hd : dOk o N = true) : OpS P N w0 U0 o σ ⟨o.dst.map fun d => (d, .d v), [], [], []⟩ :=
  opS_still hd fun σ' hok a w F hF => by
    obtain ⟨b, off, h1, h2⟩ := elD (ev_get hok hF (x := x) (by simp [ho, Op.operands]) hx)
    obtain ⟨u, h3, _, _, h4⟩ := h2 0 v hv
    rw [Nat.add_zero] at h3
    refine ⟨u, ?_, h4⟩
    simp [execOp, ho, h1, Instr.loadAt, Instr.sureAddr, run_load_one hu ha h3]
theorem choose_list {α : Type} {p : Nat → α → Prop} : ∀ n, (∀ i, i < n → ∃ x, p i x) → ∃ l : List α, l.length = n ∧ ∀ i x, l[i]? = some x → p i x := by
  intro n
  induction n with
  | zero => intro _; exact ⟨[], rfl, fun i x h => by simp at h⟩
  | succ n ih =>
    intro h
    obtain ⟨l, h1, h2⟩ := ih (fun i hi => h i (by omega))
    obtain ⟨x, hx⟩ := h n (by omega)
    refine ⟨l ++ [x], by simp [h1], fun i y hy => ?_⟩
    rcases Nat.lt_or_ge i l.length with hlt | hge
    · rw [List.getElem?_append_left hlt] at hy; exact h2 i y hy
    · rw [List.getElem?_append_right hge] at hy
      by_cases hi : i - l.length = 0
      · rw [hi] at hy
        simp at hy
        subst hy
        have : i = n := by omega
        subst this
        exact hx
      · rw [List.getElem?_eq_none (by simp; omega)] at hy; cases hy
theorem op_load_els {o : Oper} {σ : AS} {t : TypeId} {x : Operand} (ho : o.op = .load t x) {d : TypeDesc} (hu : P.underlying t = some d) (ha : aggD d = true) {i : TypeInfo} (hi : P.info? t = some i) {cs : List DV} (hx : σ.ev x = .el cs) (hl : i.size ≤ cs.length) (hd : dOk o N = true) : OpS P N w0 U0 o σ ⟨o.dst.map fun d => (d, .d (.ag (cs.take i.size))), [], [], []⟩ :=
  opS_still hd fun σ' hok a w F hF => by
    obtain ⟨b, off, h1, h2⟩ := elD (ev_get hok hF (x := x) (by simp [ho, Op.operands]) hx)
    obtain ⟨us, h3, h4⟩ := choose_list (p := fun j u => w.cell? ⟨b, off + j, none⟩ = some u ∧ u.oneCell' = true ∧ ∀ y, cs[j]? = some y → Rd w F.U u y) i.size (fun j hj => by
      obtain ⟨u, g1, _, g2, g3⟩ := h2 j _ (List.getElem?_eq_getElem (by omega))
      exact ⟨u, g1, g2, fun y hy => by rw [List.getElem?_eq_getElem (by omega)] at hy; injection hy with hy; subst hy; exact g3⟩)
    refine ⟨.agg us.toArray, ?_, .ag _ _ (by simp; omega) (fun u hu => ?_) (fun j u y hu hy => ?_)⟩
    · simp [execOp, ho, h1, Instr.loadAt, Instr.sureAddr, run_load_many hu ha hi h3 (fun j u hu => (h4 j u hu).1)]
    · obtain ⟨j, hj⟩ := List.mem_iff_getElem?.1 hu
      exact (h4 j u (by simpa using hj)).2.1
    · rw [List.getElem?_take] at hy
      split at hy
      · exact (h4 j u (by simpa using hu)).2.2 y hy
      · cases hy
theorem box_get {σ : AS} {a : Act} {w : World} {F : Fr} (hF : Fits w0 U0 σ a w F) {m : Nat} {ty : TypeId} {cs : List DV} (h : σ.n m = .bx ty cs) {b : Nat} (hb : F.β m = some b) : w0.heap.size ≤ b ∧ F.U b = 0 ∧ ∃ vs, w.heap[b]? = some (.cells vs ty (0, 0)) ∧ Rc w F.U vs.toList cs := by
  have := hF.n m
  rw [h] at this
  obtain ⟨b', vs, h1, h2, h3, h4, h5, _⟩ := this
  rw [hb] at h1
  injection h1 with h1
  subst h1
  exact ⟨h2, h3, vs, h4, h5⟩
theorem op_load_pt {o : Oper} {σ : AS} {t : TypeId} {x : Operand} (ho : o.op = .load t x) {d : TypeDesc} (hu : P.underlying t = some d) (ha : aggD d = false) {m p : Nat} (hx : σ.ev x = .pt m p) {ty : TypeId} {cs : List DV} (hm : σ.n m = .bx ty cs) {v : DV} (hv : cs[p]? = some v) (hd : dOk o N = true) : OpS P N w0 U0 o σ ⟨o.dst.map fun d => (d, .d v), [], [m], []⟩ :=
  opS_still hd fun σ' hok a w F hF => by
    obtain ⟨b, h1, h2⟩ := ev_get hok hF (x := x) (by simp [ho, Op.operands]) hx
    have hm' : σ'.n m = .bx ty cs := by rw [hok.n m (by simp)]; exact hm
    obtain ⟨_, _, vs, h3, h4⟩ := box_get hF hm' h1
    have hlt : p < cs.length := (List.getElem?_eq_some_iff.1 hv).1
    have hl := h4.1.1
    obtain ⟨u, hu'⟩ : ∃ u, vs.toList[p]? = some u := ⟨_, List.getElem?_eq_getElem (by omega)⟩
    have hc : w.cell? ⟨b, p, none⟩ = some u := by rw [cell_of_row w b p vs ty (0, 0) h3]; simpa using hu'
    refine ⟨u, ?_, h4.1.2 p u v hu' hv⟩
    simp [execOp, ho, h2, Instr.loadAt, Instr.sureAddr, run_load_one hu ha hc]
theorem op_load_pts {o : Oper} {σ : AS} {t : TypeId} {x : Operand} (ho : o.op = .load t x) {d : TypeDesc} (hu : P.underlying t = some d) (ha : aggD d = true) {i : TypeInfo} (hi : P.info? t = some i) {m p : Nat} (hx : σ.ev x = .pt m p) {ty : TypeId} {cs : List DV} (hm : σ.n m = .bx ty cs) (hl : p + i.size ≤ cs.length) (hd : dOk o N = true) : OpS P N w0 U0 o σ ⟨o.dst.map fun d => (d, .d (.ag ((cs.drop p).take i.size))), [], [m], []⟩ :=
  opS_still hd fun σ' hok a w F hF => by
    obtain ⟨b, h1, h2⟩ := ev_get hok hF (x := x) (by simp [ho, Op.operands]) hx
    have hm' : σ'.n m = .bx ty cs := by rw [hok.n m (by simp)]; exact hm
    obtain ⟨_, _, vs, h3, h4⟩ := box_get hF hm' h1
    have hll := h4.1.1
    have hus : ((vs.toList.drop p).take i.size).length = i.size := by simp at hll ⊢; omega
    refine ⟨.agg ((vs.toList.drop p).take i.size).toArray, ?_, .ag _ _ (by rw [List.size_toArray, hus]; simp; omega) (fun u hu => h4.2 u (List.mem_of_mem_drop (List.mem_of_mem_take hu))) (fun j u y hu hy => ?_)⟩
    · have := run_load_many (P := P) hu ha hi (w := w) (b := b) (o := p) hus (fun j u hu => by
        rw [cell_of_row w b _ vs ty (0, 0) h3]
        rw [List.getElem?_take] at hu
        split at hu
        · rw [List.getElem?_drop] at hu; simpa using hu
        · cases hu)
      simp [execOp, ho, h2, Instr.loadAt, Instr.sureAddr, this]
    · simp only [List.getElem?_take, List.getElem?_drop] at hu hy
      split at hu
      · rename_i hj
        rw [if_pos hj] at hy
        exact h4.1.2 _ u y hu hy
      · cases hu
/-! ### lengths -/
theorem op_len_str {o : Oper} {σ : AS} {t : TypeId} {x : Operand} (ho : o.op = .call { callee := .builtin .len, args := #[x], argTypes := #[t] }) (hu : P.underlying t = some .string) {s : ByteArray} (hx : σ.ev x = .d (.fl (.string s))) (hd : dOk o N = true) : OpS P N w0 U0 o σ ⟨o.dst.map fun d => (d, .d (.fl (.int .i64 s.size))), [], [], []⟩ :=
  opS_still hd fun σ' hok a w F hF => by
    have h1 := flat_val (ev_get hok hF (x := x) (by simp [ho, Op.operands, Call.operands]) hx)
    exact ⟨_, by simp [execOp, ho, resolve, invoke, builtin, Builtin.len_, h1, run_underlying hu, goInt], .fl _⟩
theorem op_len {o : Oper} {σ : AS} {t e : TypeId} {x : Operand} (ho : o.op = .call { callee := .builtin .len, args := #[x], argTypes := #[t] }) (hu : P.underlying t = some (.slice e)) {z : Nat} {rows : List (List DV)} (hx : σ.ev x = .d (.sl z rows)) (hd : dOk o N = true) : OpS P N w0 U0 o σ ⟨o.dst.map fun d => (d, .d (.fl (.int .i64 rows.length))), [], [], []⟩ :=
  opS_still hd fun σ' hok a w F hF => by
    have h1 : Rd w F.U (a.eval x) _ := ev_get hok hF (x := x) (by simp [ho, Op.operands, Call.operands]) hx
    obtain ⟨A, c, hv⟩ : ∃ A c, a.eval x = .slice A rows.length c := by
      generalize a.eval x = v at h1
      cases h1 with
      | sn A c z => exact ⟨A, c, rfl⟩
      | sl b off n c z rows u hn => exact ⟨_, c, by rw [hn]⟩
    exact ⟨_, by simp [execOp, ho, resolve, invoke, builtin, Builtin.len_, hv, run_underlying hu, goInt], .fl _⟩
theorem op_len_nil {o : Oper} {σ : AS} {t e : TypeId} {x : Operand} (ho : o.op = .call { callee := .builtin .len, args := #[x], argTypes := #[t] }) (hu : P.underlying t = some (.slice e)) {n c : Nat} {A : Option Addr} (hx : σ.ev x = .d (.fl (.slice A n c))) (hd : dOk o N = true) : OpS P N w0 U0 o σ ⟨o.dst.map fun d => (d, .d (.fl (.int .i64 n))), [], [], []⟩ :=
  opS_still hd fun σ' hok a w F hF => by
    have h1 := flat_val (ev_get hok hF (x := x) (by simp [ho, Op.operands, Call.operands]) hx)
    exact ⟨_, by simp [execOp, ho, resolve, invoke, builtin, Builtin.len_, h1, run_underlying hu, goInt], .fl _⟩
end
end Go.Proofs.Yteplcjhnmmpicaa.Av
