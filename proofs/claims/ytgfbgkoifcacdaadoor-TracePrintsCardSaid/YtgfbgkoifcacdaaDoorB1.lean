/- Searches in a state. No condition. -/
import Derived.Test.YtgfbgkoifcacdaaDoorTy
set_option linter.unusedSimpArgs false
set_option linter.unusedVariables false
namespace Go.Proofs.YtgfbgkoifcacdaaDoor.Wk
open Go Go.RowKit Go.Proofs.YtgfbgkoifcacdaaDoor.Av
theorem ne_self_b (a : Int) : (a != a) = false := by simp
theorem sEq_eq {a b : ByteArray} (h : sEq a b = true) : a = b := of_decide_eq_true h
theorem sEq_of {a b : ByteArray} (h : a = b) : sEq a b = true := decide_eq_true h
theorem nb {b : Bool} (h : ¬ b = true) : b = false := by cases b <;> simp at h ⊢
theorem nnb {b : Bool} (h : ¬ (!b) = true) : b = true := by cases b <;> simp at h ⊢
theorem ix_eq {α : Type} [Inhabited α] {l : List α} {i : Nat} (h : i < l.length) : l[i] = ix l i := by
  have := ix_get h
  rw [List.getElem?_eq_getElem h] at this
  injection this
theorem ix_mem {α : Type} [Inhabited α] {l : List α} {k : Nat} (h : k < l.length) : ix l k ∈ l := by rw [← ix_eq h]; exact List.getElem_mem h
theorem mem_ix {α : Type} [Inhabited α] {l : List α} {x : α} (h : x ∈ l) : ∃ k, k < l.length ∧ ix l k = x := by
  obtain ⟨j, hj, he⟩ := List.mem_iff_getElem.1 h
  exact ⟨j, hj, by rw [← ix_eq hj]; exact he⟩
theorem fnd_no {α : Type} [Inhabited α] {p : α → Bool} {l : List α} (h : ∀ q, q < l.length → p (ix l q) = false) : l.find? p = none := by
  rw [List.find?_eq_none]
  intro x hx
  obtain ⟨k, hk, he⟩ := mem_ix hx
  rw [← he, h k hk]; simp
theorem fnd_at {α : Type} [Inhabited α] {p : α → Bool} {l : List α} {k : Nat} (hk : k < l.length) (h : ∀ q, q < k → p (ix l q) = false) (hp : p (ix l k) = true) : l.find? p = some (ix l k) := by
  rw [List.find?_eq_some_iff_getElem]
  refine ⟨hp, k, hk, ix_eq hk, fun j hj => ?_⟩
  rw [ix_eq (by omega), h j hj]; rfl
theorem any_at {α : Type} [Inhabited α] {p : α → Bool} {l : List α} {k : Nat} (hk : k < l.length) (hp : p (ix l k) = true) : l.any p = true := by
  rw [List.any_eq_true]; exact ⟨_, ix_mem hk, hp⟩
theorem any_no {α : Type} [Inhabited α] {p : α → Bool} {l : List α} (h : ∀ q, q < l.length → p (ix l q) = false) : l.any p = false := by
  rw [List.any_eq_false]
  intro x hx
  obtain ⟨k, hk, he⟩ := mem_ix hx
  rw [← he, h k hk]; simp
theorem all_no {α : Type} [Inhabited α] {p : α → Bool} {l : List α} {k : Nat} (hk : k < l.length) (h : p (ix l k) = false) : l.all p = false := by
  rw [List.all_eq_false]; exact ⟨_, ix_mem hk, by rw [h]; simp⟩
theorem all_yes {α : Type} [Inhabited α] {p : α → Bool} {l : List α} (h : ∀ q, q < l.length → p (ix l q) = true) : l.all p = true := by
  rw [List.all_eq_true]
  intro x hx
  obtain ⟨k, hk, he⟩ := mem_ix hx
  rw [← he]; exact h k hk
def idx {α : Type} (p : α → Bool) (l : List α) : Int := match l.findIdx? p with
  | some i => (i : Int)
  | none => -1
theorem idx_at {α : Type} [Inhabited α] {p : α → Bool} {l : List α} {k : Nat} (hk : k < l.length) (h : ∀ q, q < k → p (ix l q) = false) (hp : p (ix l k) = true) : idx p l = (k : Int) := by
  have : l.findIdx? p = some k := by
    rw [List.findIdx?_eq_some_iff_getElem]
    refine ⟨hk, by rw [ix_eq hk]; exact hp, fun j hj => ?_⟩
    rw [ix_eq (by omega), h j hj]; simp
  unfold idx; rw [this]
theorem idx_no {α : Type} [Inhabited α] {p : α → Bool} {l : List α} (h : ∀ q, q < l.length → p (ix l q) = false) : idx p l = -1 := by
  have : l.findIdx? p = none := by
    rw [List.findIdx?_eq_none_iff]
    intro x hx
    obtain ⟨j, hj, he⟩ := List.mem_iff_getElem.1 hx
    rw [ix_eq hj] at he
    rw [← he]; exact h j hj
  unfold idx; rw [this]
theorem idx_any {α : Type} [Inhabited α] (p : α → Bool) (l : List α) : decide (0 ≤ idx p l) = l.any p := by
  unfold idx
  cases h : l.findIdx? p with
  | none =>
    rw [List.findIdx?_eq_none_iff] at h
    symm
    show l.any p = false
    rw [List.any_eq_false]
    intro x hx; rw [h x hx]; simp
  | some i =>
    rw [List.findIdx?_eq_some_iff_getElem] at h
    obtain ⟨h1, h2, _⟩ := h
    have e : l.any p = true := List.any_eq_true.2 ⟨_, List.getElem_mem h1, h2⟩
    rw [e]
    exact decide_eq_true (by show (0 : Int) ≤ (i : Int); omega)
theorem idx_in {α : Type} (p : α → Bool) (l : List α) : -1 ≤ idx p l ∧ idx p l < (l.length : Int) := by
  unfold idx
  cases h : l.findIdx? p with
  | none => show (-1 : Int) ≤ -1 ∧ (-1 : Int) < _; omega
  | some i =>
    rw [List.findIdx?_eq_some_iff_getElem] at h
    obtain ⟨h1, _⟩ := h
    show (-1 : Int) ≤ (i : Int) ∧ (i : Int) < _; omega
theorem sEq_comm (a b : ByteArray) : sEq a b = sEq b a := by
  rw [Bool.eq_iff_iff]
  exact ⟨fun h => sEq_of (sEq_eq h).symm, fun h => sEq_of (sEq_eq h).symm⟩
/-- what the first k elements give, one behind the other -/
def cat {α β : Type} [Inhabited α] (g : α → List β) (l : List α) : Nat → List β
  | 0 => []
  | k + 1 => cat g l k ++ g (ix l k)
theorem cat_eq {α β : Type} [Inhabited α] {g : α → List β} {l : List α} {k : Nat} {pre act y : List β} (hg : g (ix l k) = y) (h : act = (pre ++ cat g l k) ++ y) : act = pre ++ cat g l (k + 1) := by
  rw [h, cat, hg, List.append_assoc]
theorem cat_eq0 {α β : Type} [Inhabited α] {g : α → List β} {l : List α} {k : Nat} {act y : List β} (hg : g (ix l k) = y) (h : act = cat g l k ++ y) : act = cat g l (k + 1) := by rw [h, cat, hg]
theorem cat_len {α β : Type} [Inhabited α] {g : α → List β} {l : List α} {c : Nat} (h : ∀ x ∈ l, (g x).length ≤ c) : ∀ k, k ≤ l.length → (cat g l k).length ≤ c * k
  | 0, _ => by simp [cat]
  | k + 1, hk => by
    rw [cat, List.length_append, Nat.mul_succ]
    have := cat_len h k (by omega)
    have := h _ (ix_mem (show k < l.length by omega))
    omega
def soE (a b : So) : Bool := sEq a.dev b.dev && (a.seq == b.seq)
theorem soE_comm (a b : So) : soE a b = soE b a := by unfold soE; rw [sEq_comm, Bool.beq_comm (a := a.seq)]
def isD (d : De) (x : So) : Bool := sEq d.dev x.dev && (d.seq == x.seq)
def knw (s : Sa) (x : So) : Bool := ((s.seen.any fun y => isD y.d x) || (s.rej.any fun y => isD y.d x)) || s.res.rej.any fun y => isD y.d x
def hasP (l : List So) (x : So) : Bool := l.any fun q => soE q x
def gP (s : Sp) : List ByteArray := if sEq s.pass ⟨#[]⟩ = true then [] else [s.pass]
def pas (t : Tp) : List ByteArray := cat gP t.stops t.stops.length
def amg (t : Tp) (id : ByteArray) : Bool := (pas t).any fun q => sEq q id
def hasK (l : List Cg) (key : ByteArray) : Bool := l.any fun x => sEq x.key key
def pix (l : List Pg) (id : ByteArray) : Int := idx (fun p : Pg => sEq p.id id) l
def cix (l : List Cg) (key : ByteArray) : Int := idx (fun x : Cg => sEq x.key key) l
def vI (i : Iv) : Bool := (decide (0 ≤ i.fr) && decide (i.fr < i.to)) && decide (i.to ≤ 68719476736)
def hasI (i : Iv) (t : Int) : Bool := (vI i && decide (i.fr ≤ t)) && decide (t < i.to)
def hld (o : Ow) (v : ByteArray) (t : Int) : Bool := (!(sEq v ⟨#[]⟩) && (sEq o.tag v || sEq o.plate v)) && hasI o.time t
def ownL (l : List Ow) (v : ByteArray) (t : Int) : Bool := l.any fun o => hld o v t
def own (l : List Ac) (v : ByteArray) (t : Int) : ByteArray × Bool := match l.find? (fun a => ownL a.owned v t) with
  | some a => (a.name, true)
  | none => (⟨#[]⟩, false)
theorem own_at {l : List Ac} {v : ByteArray} {t : Int} {k : Nat} (hk : k < l.length) (h : ∀ q, q < k → ownL (ix l q).owned v t = false) (hp : ownL (ix l k).owned v t = true) : own l v t = ((ix l k).name, true) := by unfold own; rw [fnd_at hk h hp]
theorem own_no {l : List Ac} {v : ByteArray} {t : Int} (h : ∀ q, q < l.length → ownL (ix l q).owned v t = false) : own l v t = (⟨#[]⟩, false) := by unfold own; rw [fnd_no h]

theorem eqG66 (a b : So) (w : World) : (Op.equalIn 10000 66 (.agg (([.string a.dev, .int .i64 a.seq] : List Value).toArray)) (.agg (([.string b.dev, .int .i64 b.seq] : List Value).toArray))).run Tryd.prog w = .ok (soE a b) w := by
  have hS : Tryd.prog.underlying 66 = some (.struct (Tryd.prog.fieldsOf 66)) := by kernel_rfl
  have hp : Tryd.prog.stoodInHeld 66 = false := by kernel_rfl
  unfold soE
  rw [show (10000 : Nat) = 9999 + 1 from rfl, run_equalIn_agg w 9999 66 _ _ hS hp]
  simp only [Program.fieldsOf, Tryd.underlying66]
  simp only [← toList_sEq]
  by_cases h1 : a.dev.toList == b.dev.toList <;> by_cases h2 : a.seq == b.seq <;> simp only [h1, h2] <;> go_simp
theorem eqlG66 (a b : So) (x y : Operand) (w : World) : (do eqGuard .eql 66 x y (.agg (([.string a.dev, .int .i64 a.seq] : List Value).toArray)) (.agg (([.string b.dev, .int .i64 b.seq] : List Value).toArray)); binOp .eql 66 (.agg (([.string a.dev, .int .i64 a.seq] : List Value).toArray)) (.agg (([.string b.dev, .int .i64 b.seq] : List Value).toArray)) : Sem Value).run Tryd.prog w = .ok (.bool (soE a b)) w := by
  have hm : Tryd.prog.eqGuardType Tryd.prog.depth 66 = false := by kernel_rfl
  rw [Sem.run_bind, run_eqGuard_agg w .eql 66 x y _ _ hm, Result.andThen_ok, run_eql_struct, eqG66]
  rfl
theorem neqG66 (a b : So) (x y : Operand) (w : World) : (do eqGuard .neq 66 x y (.agg (([.string a.dev, .int .i64 a.seq] : List Value).toArray)) (.agg (([.string b.dev, .int .i64 b.seq] : List Value).toArray)); binOp .neq 66 (.agg (([.string a.dev, .int .i64 a.seq] : List Value).toArray)) (.agg (([.string b.dev, .int .i64 b.seq] : List Value).toArray)) : Sem Value).run Tryd.prog w = .ok (.bool (!(soE a b))) w := by
  have hm : Tryd.prog.eqGuardType Tryd.prog.depth 66 = false := by kernel_rfl
  rw [Sem.run_bind, run_eqGuard_agg w .neq 66 x y _ _ hm, Result.andThen_ok, run_neq_struct, eqG66]
  rfl
theorem eqlS66 (a b : So) (x y : Operand) (w : World) : (do eqGuard .eql 66 x y (.agg (([.string a.dev, .int .i64 a.seq] : List Value).toArray)) (.agg (([.string b.dev, .int .i64 b.seq] : List Value).toArray)); binOp .eql 66 (.agg (([.string a.dev, .int .i64 a.seq] : List Value).toArray)) (.agg (([.string b.dev, .int .i64 b.seq] : List Value).toArray)) : Sem Value).run Tryd.prog w = .ok (.bool (soE b a)) w := by rw [eqlG66, soE_comm]
set_option maxHeartbeats 4000000 in
set_option maxRecDepth 100000 in
theorem isD49 (d : De) (x : So) : Ctr Tryd.prog 49 [.ag (eDe d), .el (eSo x)] (.d (.fl (.bool (isD d x)))) := by
  refine ctr (n := 16) (rs := #[.tmp 3]) (L := [(0, .d (.ag (eDe d))), (1, .el (eSo x))]) Tryd.func49 rfl rfl rfl rfl rfl (fun w0 U0 => ?_)
  refine a_rseq ?_
  refine rg_nam (d := 2) (v := .pt 101 0) (m := 101) (nw := [(101, .bx 104 (eDe d))]) rfl (og rfl (of_eff (op_box 101 rfl rfl rfl rfl) rfl)) rfl ?_
  refine rg_put (d := 3) (v := .d (.fl (.bool false))) rfl (og rfl (op_assign rfl rfl rfl)) ?_
  refine rg_done rfl ?_
  refine a_rseq ?_
  refine rg_put (d := 4) (v := .pt 101 0) rfl (og rfl (of_eff (s_field_pt rfl Tryd.underlying104 rfl ti9 rfl rfl rfl) rfl)) ?_
  refine rg_put (d := 5) (v := .d (.fl (.string d.dev))) rfl (og rfl (op_load_pt rfl Tryd.underlying9 rfl rfl rfl rfl rfl)) ?_
  refine rg_put (d := 6) (v := .el ((List.drop 0 (eSo x)))) rfl (og rfl (of_eff (s_field_el rfl Tryd.underlying66 rfl ti9 rfl rfl rfl) rfl)) ?_
  refine rg_put (d := 7) (v := .d (.fl (.string x.dev))) rfl (og rfl (op_load_el rfl Tryd.underlying9 rfl rfl rfl rfl)) ?_
  refine rg_put (d := 8) (v := .d (.fl (.bool (sEq d.dev x.dev)))) rfl (og rfl (op_bin rfl rfl rfl (b_seq _ _ _) rfl)) ?_
  refine rg_put (d := 9) (v := .d (.fl (.bool (sEq d.dev x.dev)))) rfl (og rfl (op_move rfl rfl rfl)) ?_
  rcases fot (sEq d.dev x.dev) with h1 | h1
  · skip
    refine rg_put (d := 10) (v := .d (.fl undef)) rfl (on rfl rfl rfl h1) ?_
    refine rg_put (d := 11) (v := .d (.fl undef)) rfl (on rfl rfl rfl h1) ?_
    refine rg_put (d := 12) (v := .d (.fl undef)) rfl (on rfl rfl rfl h1) ?_
    refine rg_put (d := 13) (v := .d (.fl undef)) rfl (on rfl rfl rfl h1) ?_
    refine rg_put (d := 14) (v := .d (.fl undef)) rfl (on rfl rfl rfl h1) ?_
    refine rg_put (d := 15) (v := .d (.fl (.bool false))) rfl (og rfl (op_pick rfl rfl (by rw [h1]; rfl) rfl)) ?_
    refine rg_put (d := 3) (v := .d (.fl (.bool false))) rfl (og rfl (op_assign rfl rfl rfl)) ?_
    refine rg_done rfl ?_
    refine a_ret ?_
    show ∃ ds, ResL _ _ _ ds ∧ RV.of ds = _
    refine ⟨[.fl (.bool false)], (.cons (.tmp rfl (.d _)) .nil), ?_⟩
    have hu : isD d x = false := by unfold isD; simp only [h1, Bool.true_and, Bool.false_and, Bool.and_true, Bool.and_false, Bool.or_true, Bool.or_false, Bool.true_or, Bool.false_or, Bool.not_true, Bool.not_false] <;> rfl
    rw [hu]; rfl
  · skip
    refine rg_put (d := 10) (v := .pt 101 1) rfl (oy rfl rfl rfl h1 (of_eff (s_field_pt rfl Tryd.underlying104 rfl ti3 rfl rfl rfl) rfl)) ?_
    refine rg_put (d := 11) (v := .d (.fl (.int .i64 d.seq))) rfl (oy rfl rfl rfl h1 (op_load_pt rfl Tryd.underlying3 rfl rfl rfl rfl rfl)) ?_
    refine rg_put (d := 12) (v := .el ((List.drop 1 (eSo x)))) rfl (oy rfl rfl rfl h1 (of_eff (s_field_el rfl Tryd.underlying66 rfl ti3 rfl rfl rfl) rfl)) ?_
    refine rg_put (d := 13) (v := .d (.fl (.int .i64 x.seq))) rfl (oy rfl rfl rfl h1 (op_load_el rfl Tryd.underlying3 rfl rfl rfl rfl)) ?_
    refine rg_put (d := 14) (v := .d (.fl (.bool (d.seq == x.seq)))) rfl (oy rfl rfl rfl h1 (op_bin rfl rfl rfl (b_eql _ _ _ _) rfl)) ?_
    refine rg_put (d := 15) (v := .d (.fl (.bool (d.seq == x.seq)))) rfl (og rfl (op_pick rfl rfl (by rw [h1]; rfl) rfl)) ?_
    refine rg_put (d := 3) (v := .d (.fl (.bool (d.seq == x.seq)))) rfl (og rfl (op_assign rfl rfl rfl)) ?_
    refine rg_done rfl ?_
    refine a_ret ?_
    show ∃ ds, ResL _ _ _ ds ∧ RV.of ds = _
    refine ⟨[.fl (.bool (d.seq == x.seq))], (.cons (.tmp rfl (.d _)) .nil), ?_⟩
    have hu : isD d x = (d.seq == x.seq) := by unfold isD; simp only [h1, Bool.true_and, Bool.false_and, Bool.and_true, Bool.and_false, Bool.or_true, Bool.or_false, Bool.true_or, Bool.false_or, Bool.not_true, Bool.not_false] <;> rfl
    rw [hu]; rfl
set_option maxHeartbeats 4000000 in
set_option maxRecDepth 100000 in
theorem isD26 (d : De) (x : So) : Ctr Tryd.prog 26 [.ag (eDe d), .ag (eSo x)] (.d (.fl (.bool (isD d x)))) := by
  refine ctr (n := 17) (rs := #[.tmp 4]) (L := [(0, .d (.ag (eDe d))), (1, .d (.ag (eSo x)))]) Tryd.func26 rfl rfl rfl rfl rfl (fun w0 U0 => ?_)
  refine a_rseq ?_
  refine rg_nam (d := 2) (v := .pt 101 0) (m := 101) (nw := [(101, .bx 104 (eDe d))]) rfl (og rfl (of_eff (op_box 101 rfl rfl rfl rfl) rfl)) rfl ?_
  refine rg_nam (d := 3) (v := .pt 102 0) (m := 102) (nw := [(102, .bx 66 (eSo x))]) rfl (og rfl (of_eff (op_box 102 rfl rfl rfl rfl) rfl)) rfl ?_
  refine rg_put (d := 4) (v := .d (.fl (.bool false))) rfl (og rfl (op_assign rfl rfl rfl)) ?_
  refine rg_done rfl ?_
  refine a_rseq ?_
  refine rg_put (d := 5) (v := .pt 101 0) rfl (og rfl (of_eff (s_field_pt rfl Tryd.underlying104 rfl ti9 rfl rfl rfl) rfl)) ?_
  refine rg_put (d := 6) (v := .d (.fl (.string d.dev))) rfl (og rfl (op_load_pt rfl Tryd.underlying9 rfl rfl rfl rfl rfl)) ?_
  refine rg_put (d := 7) (v := .pt 102 0) rfl (og rfl (of_eff (s_field_pt rfl Tryd.underlying66 rfl ti9 rfl rfl rfl) rfl)) ?_
  refine rg_put (d := 8) (v := .d (.fl (.string x.dev))) rfl (og rfl (op_load_pt rfl Tryd.underlying9 rfl rfl rfl rfl rfl)) ?_
  refine rg_put (d := 9) (v := .d (.fl (.bool (sEq d.dev x.dev)))) rfl (og rfl (op_bin rfl rfl rfl (b_seq _ _ _) rfl)) ?_
  refine rg_put (d := 10) (v := .d (.fl (.bool (sEq d.dev x.dev)))) rfl (og rfl (op_move rfl rfl rfl)) ?_
  rcases fot (sEq d.dev x.dev) with h1 | h1
  · skip
    refine rg_put (d := 11) (v := .d (.fl undef)) rfl (on rfl rfl rfl h1) ?_
    refine rg_put (d := 12) (v := .d (.fl undef)) rfl (on rfl rfl rfl h1) ?_
    refine rg_put (d := 13) (v := .d (.fl undef)) rfl (on rfl rfl rfl h1) ?_
    refine rg_put (d := 14) (v := .d (.fl undef)) rfl (on rfl rfl rfl h1) ?_
    refine rg_put (d := 15) (v := .d (.fl undef)) rfl (on rfl rfl rfl h1) ?_
    refine rg_put (d := 16) (v := .d (.fl (.bool false))) rfl (og rfl (op_pick rfl rfl (by rw [h1]; rfl) rfl)) ?_
    refine rg_put (d := 4) (v := .d (.fl (.bool false))) rfl (og rfl (op_assign rfl rfl rfl)) ?_
    refine rg_done rfl ?_
    refine a_ret ?_
    show ∃ ds, ResL _ _ _ ds ∧ RV.of ds = _
    refine ⟨[.fl (.bool false)], (.cons (.tmp rfl (.d _)) .nil), ?_⟩
    have hu : isD d x = false := by unfold isD; simp only [h1, Bool.true_and, Bool.false_and, Bool.and_true, Bool.and_false, Bool.or_true, Bool.or_false, Bool.true_or, Bool.false_or, Bool.not_true, Bool.not_false] <;> rfl
    rw [hu]; rfl
  · skip
    refine rg_put (d := 11) (v := .pt 101 1) rfl (oy rfl rfl rfl h1 (of_eff (s_field_pt rfl Tryd.underlying104 rfl ti3 rfl rfl rfl) rfl)) ?_
    refine rg_put (d := 12) (v := .d (.fl (.int .i64 d.seq))) rfl (oy rfl rfl rfl h1 (op_load_pt rfl Tryd.underlying3 rfl rfl rfl rfl rfl)) ?_
    refine rg_put (d := 13) (v := .pt 102 1) rfl (oy rfl rfl rfl h1 (of_eff (s_field_pt rfl Tryd.underlying66 rfl ti3 rfl rfl rfl) rfl)) ?_
    refine rg_put (d := 14) (v := .d (.fl (.int .i64 x.seq))) rfl (oy rfl rfl rfl h1 (op_load_pt rfl Tryd.underlying3 rfl rfl rfl rfl rfl)) ?_
    refine rg_put (d := 15) (v := .d (.fl (.bool (d.seq == x.seq)))) rfl (oy rfl rfl rfl h1 (op_bin rfl rfl rfl (b_eql _ _ _ _) rfl)) ?_
    refine rg_put (d := 16) (v := .d (.fl (.bool (d.seq == x.seq)))) rfl (og rfl (op_pick rfl rfl (by rw [h1]; rfl) rfl)) ?_
    refine rg_put (d := 4) (v := .d (.fl (.bool (d.seq == x.seq)))) rfl (og rfl (op_assign rfl rfl rfl)) ?_
    refine rg_done rfl ?_
    refine a_ret ?_
    show ∃ ds, ResL _ _ _ ds ∧ RV.of ds = _
    refine ⟨[.fl (.bool (d.seq == x.seq))], (.cons (.tmp rfl (.d _)) .nil), ?_⟩
    have hu : isD d x = (d.seq == x.seq) := by unfold isD; simp only [h1, Bool.true_and, Bool.false_and, Bool.and_true, Bool.and_false, Bool.or_true, Bool.or_false, Bool.true_or, Bool.false_or, Bool.not_true, Bool.not_false] <;> rfl
    rw [hu]; rfl
set_option maxHeartbeats 4000000 in
set_option maxRecDepth 100000 in
theorem isD50 (y : Sn) (x : So) : Ctr Tryd.prog 50 [.ag (eSn y), .el ([.fn 49 [.el (eSo x)]])] (.d (.fl (.bool (isD y.d x)))) := by
  refine ctr (n := 8) (rs := #[.tmp 3]) (L := [(0, .d (.ag (eSn y))), (1, .el ([.fn 49 [.el (eSo x)]]))]) Tryd.func50 rfl rfl rfl rfl rfl (fun w0 U0 => ?_)
  refine a_rseq ?_
  refine rg_nam (d := 2) (v := .pt 101 0) (m := 101) (nw := [(101, .bx 106 (eSn y))]) rfl (og rfl (of_eff (op_box 101 rfl rfl rfl rfl) rfl)) rfl ?_
  refine rg_put (d := 3) (v := .d (.fl (.bool false))) rfl (og rfl (op_assign rfl rfl rfl)) ?_
  refine rg_done rfl ?_
  refine a_rseq ?_
  refine rg_put (d := 4) (v := .d (.fn 49 [.el (eSo x)])) rfl (og rfl (op_load_el rfl Tryd.underlying145 rfl rfl rfl rfl)) ?_
  refine rg_put (d := 5) (v := .pt 101 0) rfl (og rfl (of_eff (s_field_pt rfl Tryd.underlying106 rfl ti104 rfl rfl rfl) rfl)) ?_
  refine rg_put (d := 6) (v := .d (.ag (eDe y.d))) rfl (og rfl (of_eff (s_load_pts rfl Tryd.underlying104 rfl ti104 rfl rfl rfl rfl) rfl)) ?_
  refine rg_put (d := 7) (v := .d (.fl (.bool (isD y.d x)))) rfl (og rfl (op_callV rfl rfl ⟨_, Tryd.func49, nm49, rfl⟩ (.cons rfl (.d _) .nil) (isD49 y.d x) rfl)) ?_
  refine rg_put (d := 3) (v := .d (.fl (.bool (isD y.d x)))) rfl (og rfl (op_assign rfl rfl rfl)) ?_
  refine rg_done rfl ?_
  refine a_ret ?_
  show ∃ ds, ResL _ _ _ ds ∧ RV.of ds = _
  refine ⟨[.fl (.bool (isD y.d x))], (.cons (.tmp rfl (.d _)) .nil), ?_⟩
  rfl
set_option maxHeartbeats 4000000 in
set_option maxRecDepth 100000 in
theorem isD51 (y : Rj) (x : So) : Ctr Tryd.prog 51 [.ag (eRj y), .el ([.fn 49 [.el (eSo x)]])] (.d (.fl (.bool (isD y.d x)))) := by
  refine ctr (n := 8) (rs := #[.tmp 3]) (L := [(0, .d (.ag (eRj y))), (1, .el ([.fn 49 [.el (eSo x)]]))]) Tryd.func51 rfl rfl rfl rfl rfl (fun w0 U0 => ?_)
  refine a_rseq ?_
  refine rg_nam (d := 2) (v := .pt 101 0) (m := 101) (nw := [(101, .bx 109 (eRj y))]) rfl (og rfl (of_eff (op_box 101 rfl rfl rfl rfl) rfl)) rfl ?_
  refine rg_put (d := 3) (v := .d (.fl (.bool false))) rfl (og rfl (op_assign rfl rfl rfl)) ?_
  refine rg_done rfl ?_
  refine a_rseq ?_
  refine rg_put (d := 4) (v := .d (.fn 49 [.el (eSo x)])) rfl (og rfl (op_load_el rfl Tryd.underlying145 rfl rfl rfl rfl)) ?_
  refine rg_put (d := 5) (v := .pt 101 0) rfl (og rfl (of_eff (s_field_pt rfl Tryd.underlying109 rfl ti104 rfl rfl rfl) rfl)) ?_
  refine rg_put (d := 6) (v := .d (.ag (eDe y.d))) rfl (og rfl (of_eff (s_load_pts rfl Tryd.underlying104 rfl ti104 rfl rfl rfl rfl) rfl)) ?_
  refine rg_put (d := 7) (v := .d (.fl (.bool (isD y.d x)))) rfl (og rfl (op_callV rfl rfl ⟨_, Tryd.func49, nm49, rfl⟩ (.cons rfl (.d _) .nil) (isD49 y.d x) rfl)) ?_
  refine rg_put (d := 3) (v := .d (.fl (.bool (isD y.d x)))) rfl (og rfl (op_assign rfl rfl rfl)) ?_
  refine rg_done rfl ?_
  refine a_ret ?_
  show ∃ ds, ResL _ _ _ ds ∧ RV.of ds = _
  refine ⟨[.fl (.bool (isD y.d x))], (.cons (.tmp rfl (.d _)) .nil), ?_⟩
  rfl
set_option maxHeartbeats 4000000 in
set_option maxRecDepth 100000 in
theorem ix72 (l : List Sn) (x : So) (hl : l.length ≤ 9223372036854775807) : Ctr Tryd.prog 72 [.sl 11 (List.map eSn l), .fn 50 [.el [.fn 49 [.el (eSo x)]]]] (.d (.fl (.int .i64 (idx (fun y : Sn => isD y.d x) l)))) := by
  refine ctr (n := 19) (rs := #[.tmp 4]) (L := [(0, .d (.sl 11 (List.map eSn l))), (1, .d (.fn 50 [.el [.fn 49 [.el (eSo x)]]]))]) Tryd.func72 rfl rfl rfl rfl rfl (fun w0 U0 => ?_)
  refine a_rseq ?_
  refine rg_put (d := 4) (v := .d (.fl (.int .i64 0))) rfl (og rfl (op_assign rfl rfl rfl)) ?_
  refine rg_done rfl ?_
  refine a_seq ?_
  refine a_rseq ?_
  refine rg_put (d := 6) (v := .d (.sl 11 (List.map eSn l))) rfl (og rfl (op_move rfl rfl rfl)) ?_
  refine rg_put (d := 7) (v := .d (.fl (.int .i64 (l.length : Int)))) rfl (og rfl (s_len rfl Tryd.underlying47 rfl rfl)) ?_
  refine rg_put (d := 8) (v := .d (.fl (.int .i64 0))) rfl (og rfl (op_move rfl rfl rfl)) ?_
  refine rg_done rfl ?_
  refine a_block ?_
  refine a_loop (ι := Nat) (fun k => SS [(0, .d (.sl 11 (List.map eSn l))), (1, .d (.fn 50 [.el [.fn 49 [.el (eSo x)]]])), (7, .d (.fl (.int .i64 (l.length : Int)))), (8, .d (.fl (.int .i64 (k : Int))))] []) (fun k => k ≤ l.length ∧ ∀ q, q < k → isD (ix l q).d x = false) (fun k => l.length - k) 0 (⟨by omega, fun q h => by omega⟩) (imp_forget rfl ⟨rfl, rfl, rfl, (by first | rfl | exact ci (by omega) | exact ci (by simp) | exact cd (by simp) | simp), trivial⟩ trivial) (fun k hok => ?_)
  obtain ⟨hkk, hq⟩ := hok
  refine a_rseq ?_
  refine rg_put (d := 9) (v := .d (.fl (.bool ((decide ((k : Int) < (l.length : Int))))))) rfl (og rfl (op_bin rfl rfl rfl (b_lss _ _ _ _) rfl)) ?_
  refine rg_done rfl ?_
  refine a_seq ?_
  refine a_cond rfl (fun h1 => ?_) (fun h1 => ?_)
  · skip
    have h2 := t_dec h1
    refine a_skip ?_
    show A _ _ _ _ _ _ _
    refine a_seq ?_
    refine a_block ?_
    refine a_rseq ?_
    refine rg_put (d := 10) (v := .d (.fl (.int .i64 (k : Int)))) rfl (og rfl (op_move rfl rfl rfl)) ?_
    refine rg_put (d := 5) (v := .d (.fl (.int .i64 (k : Int)))) rfl (og rfl (op_assign rfl rfl rfl)) ?_
    refine rg_done rfl ?_
    refine a_rseq ?_
    refine rg_put (d := 11) (v := .d (.fn 50 [.el [.fn 49 [.el (eSo x)]]])) rfl (og rfl (op_move rfl rfl rfl)) ?_
    refine rg_put (d := 12) (v := .d (.sl 11 (List.map eSn l))) rfl (og rfl (op_move rfl rfl rfl)) ?_
    refine rg_put (d := 13) (v := .d (.fl (.int .i64 (k : Int)))) rfl (og rfl (op_move rfl rfl rfl)) ?_
    refine rg_put (d := 14) (v := .el ((eSn (ix l k)))) rfl (og rfl (s_index rfl Tryd.underlying47 ti106 rfl rfl (by omega) (row_at (by omega)) rfl)) ?_
    refine rg_put (d := 15) (v := .d (.ag (eSn (ix l k)))) rfl (og rfl (of_eff (s_load_els rfl Tryd.underlying106 rfl ti106 rfl rfl rfl) rfl)) ?_
    refine rg_put (d := 16) (v := .d (.fl (.bool ((isD (ix l k).d x))))) rfl (og rfl (op_callV rfl rfl ⟨_, Tryd.func50, nm50, rfl⟩ (.cons rfl (.d _) .nil) (isD50 (ix l k) x) rfl)) ?_
    refine rg_done rfl ?_
    refine a_cond rfl (fun h3 => ?_) (fun h3 => ?_)
    · skip
      refine a_rseq ?_
      refine rg_put (d := 17) (v := .d (.fl (.int .i64 (k : Int)))) rfl (og rfl (op_move rfl rfl rfl)) ?_
      refine rg_put (d := 4) (v := .d (.fl (.int .i64 (k : Int)))) rfl (og rfl (op_assign rfl rfl rfl)) ?_
      refine rg_done rfl ?_
      refine a_ret ?_
      show ∃ ds, ResL _ _ _ ds ∧ RV.of ds = _
      refine ⟨[.fl (.int .i64 (k : Int))], (.cons (.tmp rfl (.d _)) .nil), ?_⟩
      have hu : idx (fun y : Sn => isD y.d x) l = (k : Int) := idx_at (by omega) hq h3
      rw [hu]; rfl
    · skip
      refine a_skip ?_
      show A _ _ _ _ _ _ _
      refine a_region ?_
      refine rg_put (d := 18) (v := .d (.fl (.int .i64 (((k : Int) + 1))))) rfl (og rfl (op_bin rfl rfl rfl (fun x y w => b_add64 _ _ _ x y w (by omega)) rfl)) ?_
      refine rg_put (d := 8) (v := .d (.fl (.int .i64 (((k : Int) + 1))))) rfl (og rfl (op_move rfl rfl rfl)) ?_
      refine rg_done rfl ?_
      have hx : isD (ix l k).d x = false := h3
      show ∃ i, _ ∧ _ ∧ Imp _ _ _ _ _
      refine ⟨k + 1, ⟨by omega, fun q h => (Nat.lt_succ_iff_lt_or_eq.1 h).elim (hq q) (fun e => by rw [e]; exact hx)⟩, by omega, imp_forget rfl ⟨rfl, rfl, rfl, (by first | rfl | exact ci (by omega) | exact ci (by simp) | exact cd (by simp) | simp), trivial⟩ trivial⟩
  · skip
    have h4 := f_dec h1
    refine a_exit ?_
    show A _ _ _ _ _ _ _
    refine a_rseq ?_
    refine rg_put (d := 4) (v := .d (.fl (.int .i64 (-1)))) rfl (og rfl (op_assign rfl rfl rfl)) ?_
    refine rg_done rfl ?_
    refine a_ret ?_
    show ∃ ds, ResL _ _ _ ds ∧ RV.of ds = _
    refine ⟨[.fl (.int .i64 (-1))], (.cons (.tmp rfl (.d _)) .nil), ?_⟩
    have hu : idx (fun y : Sn => isD y.d x) l = -1 := idx_no (fun q h => hq q (by omega))
    rw [hu]; rfl
set_option maxHeartbeats 4000000 in
set_option maxRecDepth 100000 in
theorem con52 (l : List Sn) (x : So) (hl : l.length ≤ 9223372036854775807) : Ctr Tryd.prog 52 [.sl 11 (List.map eSn l), .fn 50 [.el [.fn 49 [.el (eSo x)]]]] (.d (.fl (.bool (l.any fun y => isD y.d x)))) := by
  refine ctr (n := 9) (rs := #[.tmp 4]) (L := [(0, .d (.sl 11 (List.map eSn l))), (1, .d (.fn 50 [.el [.fn 49 [.el (eSo x)]]]))]) Tryd.func52 rfl rfl rfl rfl rfl (fun w0 U0 => ?_)
  refine a_rseq ?_
  refine rg_put (d := 4) (v := .d (.fl (.bool false))) rfl (og rfl (op_assign rfl rfl rfl)) ?_
  refine rg_done rfl ?_
  refine a_rseq ?_
  refine rg_put (d := 5) (v := .d (.sl 11 (List.map eSn l))) rfl (og rfl (op_move rfl rfl rfl)) ?_
  refine rg_put (d := 6) (v := .d (.fn 50 [.el [.fn 49 [.el (eSo x)]]])) rfl (og rfl (op_move rfl rfl rfl)) ?_
  refine rg_put (d := 7) (v := .d (.fl (.int .i64 ((idx (fun y : Sn => isD y.d x) l))))) rfl (og rfl (op_call rfl Tryd.func72 nm72 rfl (.cons rfl (.d _) (.cons rfl (.d _) .nil)) (ix72 l x (by omega)) rfl)) ?_
  refine rg_put (d := 8) (v := .d (.fl (.bool ((decide (0 ≤ (idx (fun y : Sn => isD y.d x) l))))))) rfl (og rfl (op_bin rfl rfl rfl (b_geq _ _ _ _) rfl)) ?_
  refine rg_put (d := 4) (v := .d (.fl (.bool ((decide (0 ≤ (idx (fun y : Sn => isD y.d x) l))))))) rfl (og rfl (op_assign rfl rfl rfl)) ?_
  refine rg_done rfl ?_
  refine a_ret ?_
  show ∃ ds, ResL _ _ _ ds ∧ RV.of ds = _
  refine ⟨[.fl (.bool ((decide (0 ≤ (idx (fun y : Sn => isD y.d x) l)))))], (.cons (.tmp rfl (.d _)) .nil), ?_⟩
  rw [idx_any]; rfl
set_option maxHeartbeats 4000000 in
set_option maxRecDepth 100000 in
theorem ix73 (l : List Rj) (x : So) (hl : l.length ≤ 9223372036854775807) : Ctr Tryd.prog 73 [.sl 8 (List.map eRj l), .fn 51 [.el [.fn 49 [.el (eSo x)]]]] (.d (.fl (.int .i64 (idx (fun y : Rj => isD y.d x) l)))) := by
  refine ctr (n := 19) (rs := #[.tmp 4]) (L := [(0, .d (.sl 8 (List.map eRj l))), (1, .d (.fn 51 [.el [.fn 49 [.el (eSo x)]]]))]) Tryd.func73 rfl rfl rfl rfl rfl (fun w0 U0 => ?_)
  refine a_rseq ?_
  refine rg_put (d := 4) (v := .d (.fl (.int .i64 0))) rfl (og rfl (op_assign rfl rfl rfl)) ?_
  refine rg_done rfl ?_
  refine a_seq ?_
  refine a_rseq ?_
  refine rg_put (d := 6) (v := .d (.sl 8 (List.map eRj l))) rfl (og rfl (op_move rfl rfl rfl)) ?_
  refine rg_put (d := 7) (v := .d (.fl (.int .i64 (l.length : Int)))) rfl (og rfl (s_len rfl Tryd.underlying48 rfl rfl)) ?_
  refine rg_put (d := 8) (v := .d (.fl (.int .i64 0))) rfl (og rfl (op_move rfl rfl rfl)) ?_
  refine rg_done rfl ?_
  refine a_block ?_
  refine a_loop (ι := Nat) (fun k => SS [(0, .d (.sl 8 (List.map eRj l))), (1, .d (.fn 51 [.el [.fn 49 [.el (eSo x)]]])), (7, .d (.fl (.int .i64 (l.length : Int)))), (8, .d (.fl (.int .i64 (k : Int))))] []) (fun k => k ≤ l.length ∧ ∀ q, q < k → isD (ix l q).d x = false) (fun k => l.length - k) 0 (⟨by omega, fun q h => by omega⟩) (imp_forget rfl ⟨rfl, rfl, rfl, (by first | rfl | exact ci (by omega) | exact ci (by simp) | exact cd (by simp) | simp), trivial⟩ trivial) (fun k hok => ?_)
  obtain ⟨hkk, hq⟩ := hok
  refine a_rseq ?_
  refine rg_put (d := 9) (v := .d (.fl (.bool ((decide ((k : Int) < (l.length : Int))))))) rfl (og rfl (op_bin rfl rfl rfl (b_lss _ _ _ _) rfl)) ?_
  refine rg_done rfl ?_
  refine a_seq ?_
  refine a_cond rfl (fun h1 => ?_) (fun h1 => ?_)
  · skip
    have h2 := t_dec h1
    refine a_skip ?_
    show A _ _ _ _ _ _ _
    refine a_seq ?_
    refine a_block ?_
    refine a_rseq ?_
    refine rg_put (d := 10) (v := .d (.fl (.int .i64 (k : Int)))) rfl (og rfl (op_move rfl rfl rfl)) ?_
    refine rg_put (d := 5) (v := .d (.fl (.int .i64 (k : Int)))) rfl (og rfl (op_assign rfl rfl rfl)) ?_
    refine rg_done rfl ?_
    refine a_rseq ?_
    refine rg_put (d := 11) (v := .d (.fn 51 [.el [.fn 49 [.el (eSo x)]]])) rfl (og rfl (op_move rfl rfl rfl)) ?_
    refine rg_put (d := 12) (v := .d (.sl 8 (List.map eRj l))) rfl (og rfl (op_move rfl rfl rfl)) ?_
    refine rg_put (d := 13) (v := .d (.fl (.int .i64 (k : Int)))) rfl (og rfl (op_move rfl rfl rfl)) ?_
    refine rg_put (d := 14) (v := .el ((eRj (ix l k)))) rfl (og rfl (s_index rfl Tryd.underlying48 ti109 rfl rfl (by omega) (row_at (by omega)) rfl)) ?_
    refine rg_put (d := 15) (v := .d (.ag (eRj (ix l k)))) rfl (og rfl (of_eff (s_load_els rfl Tryd.underlying109 rfl ti109 rfl rfl rfl) rfl)) ?_
    refine rg_put (d := 16) (v := .d (.fl (.bool ((isD (ix l k).d x))))) rfl (og rfl (op_callV rfl rfl ⟨_, Tryd.func51, nm51, rfl⟩ (.cons rfl (.d _) .nil) (isD51 (ix l k) x) rfl)) ?_
    refine rg_done rfl ?_
    refine a_cond rfl (fun h3 => ?_) (fun h3 => ?_)
    · skip
      refine a_rseq ?_
      refine rg_put (d := 17) (v := .d (.fl (.int .i64 (k : Int)))) rfl (og rfl (op_move rfl rfl rfl)) ?_
      refine rg_put (d := 4) (v := .d (.fl (.int .i64 (k : Int)))) rfl (og rfl (op_assign rfl rfl rfl)) ?_
      refine rg_done rfl ?_
      refine a_ret ?_
      show ∃ ds, ResL _ _ _ ds ∧ RV.of ds = _
      refine ⟨[.fl (.int .i64 (k : Int))], (.cons (.tmp rfl (.d _)) .nil), ?_⟩
      have hu : idx (fun y : Rj => isD y.d x) l = (k : Int) := idx_at (by omega) hq h3
      rw [hu]; rfl
    · skip
      refine a_skip ?_
      show A _ _ _ _ _ _ _
      refine a_region ?_
      refine rg_put (d := 18) (v := .d (.fl (.int .i64 (((k : Int) + 1))))) rfl (og rfl (op_bin rfl rfl rfl (fun x y w => b_add64 _ _ _ x y w (by omega)) rfl)) ?_
      refine rg_put (d := 8) (v := .d (.fl (.int .i64 (((k : Int) + 1))))) rfl (og rfl (op_move rfl rfl rfl)) ?_
      refine rg_done rfl ?_
      have hx : isD (ix l k).d x = false := h3
      show ∃ i, _ ∧ _ ∧ Imp _ _ _ _ _
      refine ⟨k + 1, ⟨by omega, fun q h => (Nat.lt_succ_iff_lt_or_eq.1 h).elim (hq q) (fun e => by rw [e]; exact hx)⟩, by omega, imp_forget rfl ⟨rfl, rfl, rfl, (by first | rfl | exact ci (by omega) | exact ci (by simp) | exact cd (by simp) | simp), trivial⟩ trivial⟩
  · skip
    have h4 := f_dec h1
    refine a_exit ?_
    show A _ _ _ _ _ _ _
    refine a_rseq ?_
    refine rg_put (d := 4) (v := .d (.fl (.int .i64 (-1)))) rfl (og rfl (op_assign rfl rfl rfl)) ?_
    refine rg_done rfl ?_
    refine a_ret ?_
    show ∃ ds, ResL _ _ _ ds ∧ RV.of ds = _
    refine ⟨[.fl (.int .i64 (-1))], (.cons (.tmp rfl (.d _)) .nil), ?_⟩
    have hu : idx (fun y : Rj => isD y.d x) l = -1 := idx_no (fun q h => hq q (by omega))
    rw [hu]; rfl
set_option maxHeartbeats 4000000 in
set_option maxRecDepth 100000 in
theorem con53 (l : List Rj) (x : So) (hl : l.length ≤ 9223372036854775807) : Ctr Tryd.prog 53 [.sl 8 (List.map eRj l), .fn 51 [.el [.fn 49 [.el (eSo x)]]]] (.d (.fl (.bool (l.any fun y => isD y.d x)))) := by
  refine ctr (n := 9) (rs := #[.tmp 4]) (L := [(0, .d (.sl 8 (List.map eRj l))), (1, .d (.fn 51 [.el [.fn 49 [.el (eSo x)]]]))]) Tryd.func53 rfl rfl rfl rfl rfl (fun w0 U0 => ?_)
  refine a_rseq ?_
  refine rg_put (d := 4) (v := .d (.fl (.bool false))) rfl (og rfl (op_assign rfl rfl rfl)) ?_
  refine rg_done rfl ?_
  refine a_rseq ?_
  refine rg_put (d := 5) (v := .d (.sl 8 (List.map eRj l))) rfl (og rfl (op_move rfl rfl rfl)) ?_
  refine rg_put (d := 6) (v := .d (.fn 51 [.el [.fn 49 [.el (eSo x)]]])) rfl (og rfl (op_move rfl rfl rfl)) ?_
  refine rg_put (d := 7) (v := .d (.fl (.int .i64 ((idx (fun y : Rj => isD y.d x) l))))) rfl (og rfl (op_call rfl Tryd.func73 nm73 rfl (.cons rfl (.d _) (.cons rfl (.d _) .nil)) (ix73 l x (by omega)) rfl)) ?_
  refine rg_put (d := 8) (v := .d (.fl (.bool ((decide (0 ≤ (idx (fun y : Rj => isD y.d x) l))))))) rfl (og rfl (op_bin rfl rfl rfl (b_geq _ _ _ _) rfl)) ?_
  refine rg_put (d := 4) (v := .d (.fl (.bool ((decide (0 ≤ (idx (fun y : Rj => isD y.d x) l))))))) rfl (og rfl (op_assign rfl rfl rfl)) ?_
  refine rg_done rfl ?_
  refine a_ret ?_
  show ∃ ds, ResL _ _ _ ds ∧ RV.of ds = _
  refine ⟨[.fl (.bool ((decide (0 ≤ (idx (fun y : Rj => isD y.d x) l)))))], (.cons (.tmp rfl (.d _)) .nil), ?_⟩
  rw [idx_any]; rfl
set_option maxHeartbeats 4000000 in
set_option maxRecDepth 100000 in
theorem knw20 (s : Sa) (x : So) (h1 : s.seen.length ≤ 1000) (h2 : s.rej.length ≤ 1000) (h3 : s.res.rej.length ≤ 1000) : Ctr Tryd.prog 20 [.ag (eSa s), .ag (eSo x)] (.d (.fl (.bool (knw s x)))) := by
  refine ctr (n := 28) (rs := #[.tmp 4]) (L := [(0, .d (.ag (eSa s))), (1, .d (.ag (eSo x)))]) Tryd.func20 rfl rfl rfl rfl rfl (fun w0 U0 => ?_)
  refine a_rseq ?_
  refine rg_nam (d := 2) (v := .pt 101 0) (m := 101) (nw := [(101, .bx 64 (eSa s))]) rfl (og rfl (of_eff (op_box 101 rfl rfl rfl rfl) rfl)) rfl ?_
  refine rg_nam (d := 3) (v := .pt 102 0) (m := 102) (nw := [(102, .bx 66 (eSo x))]) rfl (og rfl (of_eff (op_box 102 rfl rfl rfl rfl) rfl)) rfl ?_
  refine rg_put (d := 4) (v := .d (.fl (.bool false))) rfl (og rfl (op_assign rfl rfl rfl)) ?_
  refine rg_done rfl ?_
  refine a_rseq ?_
  refine rg_imp (imp_freeze 3 102 rfl rfl) ?_
  refine rg_put (d := 8) (v := .d (.fn 49 [.el (eSo x)])) rfl (og rfl (op_mkfn rfl (.cons rfl .nil) rfl)) ?_
  refine rg_nam (d := 5) (v := .pt 103 0) (m := 103) (nw := [(103, .bx 145 [.fl (.nilFunc)])]) rfl (og rfl (of_eff (s_alloc 103 rfl ti145 (by kernel_rfl) rfl) rfl)) rfl ?_
  refine rg_sto (nw := [(103, .bx 145 ([.fn 49 [.el (eSo x)]]))]) rfl (og rfl (of_eff (s_store rfl rfl ti145 rfl rfl rfl rfl rfl rfl) rfl)) ?_
  refine rg_done rfl ?_
  refine a_rseq ?_
  refine rg_imp (imp_freeze 5 103 rfl rfl) ?_
  refine rg_put (d := 9) (v := .d (.fn 50 [.el ([.fn 49 [.el (eSo x)]])])) rfl (og rfl (op_mkfn rfl (.cons rfl .nil) rfl)) ?_
  refine rg_put (d := 6) (v := .d (.fn 50 [.el ([.fn 49 [.el (eSo x)]])])) rfl (og rfl (op_assign rfl rfl rfl)) ?_
  refine rg_done rfl ?_
  refine a_rseq ?_
  refine rg_put (d := 10) (v := .d (.fn 51 [.el ([.fn 49 [.el (eSo x)]])])) rfl (og rfl (op_mkfn rfl (.cons rfl .nil) rfl)) ?_
  refine rg_put (d := 7) (v := .d (.fn 51 [.el ([.fn 49 [.el (eSo x)]])])) rfl (og rfl (op_assign rfl rfl rfl)) ?_
  refine rg_done rfl ?_
  refine a_rseq ?_
  refine rg_put (d := 11) (v := .pt 101 25) rfl (og rfl (of_eff (s_field_pt rfl Tryd.underlying64 rfl ti47 rfl rfl rfl) rfl)) ?_
  refine rg_put (d := 12) (v := .d (.sl 11 (List.map eSn s.seen))) rfl (og rfl (op_load_pt rfl Tryd.underlying47 rfl rfl rfl rfl rfl)) ?_
  refine rg_put (d := 13) (v := .d (.fn 50 [.el ([.fn 49 [.el (eSo x)]])])) rfl (og rfl (op_move rfl rfl rfl)) ?_
  refine rg_put (d := 14) (v := .d (.fl (.bool ((List.any s.seen (fun y => isD y.d x)))))) rfl (og rfl (op_call rfl Tryd.func52 nm52 rfl (.cons rfl (.d _) (.cons rfl (.d _) .nil)) (con52 s.seen x (by omega)) rfl)) ?_
  refine rg_put (d := 15) (v := .d (.fl (.bool ((List.any s.seen (fun y => isD y.d x)))))) rfl (og rfl (op_move rfl rfl rfl)) ?_
  rcases fot ((List.any s.seen (fun y => isD y.d x))) with h1 | h1
  · skip
    refine rg_put (d := 16) (v := .pt 101 26) rfl (oy rfl rfl rfl h1 (of_eff (s_field_pt rfl Tryd.underlying64 rfl ti48 rfl rfl rfl) rfl)) ?_
    refine rg_put (d := 17) (v := .d (.sl 8 (List.map eRj s.rej))) rfl (oy rfl rfl rfl h1 (op_load_pt rfl Tryd.underlying48 rfl rfl rfl rfl rfl)) ?_
    refine rg_put (d := 18) (v := .d (.fn 51 [.el ([.fn 49 [.el (eSo x)]])])) rfl (oy rfl rfl rfl h1 (op_move rfl rfl rfl)) ?_
    refine rg_put (d := 19) (v := .d (.fl (.bool ((List.any s.rej (fun y => isD y.d x)))))) rfl (oy rfl rfl rfl h1 (op_call rfl Tryd.func53 nm53 rfl (.cons rfl (.d _) (.cons rfl (.d _) .nil)) (con53 s.rej x (by omega)) rfl)) ?_
    refine rg_put (d := 20) (v := .d (.fl (.bool ((List.any s.rej (fun y => isD y.d x)))))) rfl (og rfl (op_pick rfl rfl (by rw [h1]; rfl) rfl)) ?_
    refine rg_put (d := 21) (v := .d (.fl (.bool ((List.any s.rej (fun y => isD y.d x)))))) rfl (og rfl (op_move rfl rfl rfl)) ?_
    rcases fot ((List.any s.rej (fun y => isD y.d x))) with h2 | h2
    · skip
      refine rg_put (d := 22) (v := .pt 101 29) rfl (oy rfl rfl rfl h2 (of_eff (s_field_pt rfl Tryd.underlying64 rfl ti56 rfl rfl rfl) rfl)) ?_
      refine rg_put (d := 23) (v := .pt 101 30) rfl (oy rfl rfl rfl h2 (of_eff (s_field_pt rfl Tryd.underlying56 rfl ti48 rfl rfl rfl) rfl)) ?_
      refine rg_put (d := 24) (v := .d (.sl 8 (List.map eRj s.res.rej))) rfl (oy rfl rfl rfl h2 (op_load_pt rfl Tryd.underlying48 rfl rfl rfl rfl rfl)) ?_
      refine rg_put (d := 25) (v := .d (.fn 51 [.el ([.fn 49 [.el (eSo x)]])])) rfl (oy rfl rfl rfl h2 (op_move rfl rfl rfl)) ?_
      refine rg_put (d := 26) (v := .d (.fl (.bool ((List.any s.res.rej (fun y => isD y.d x)))))) rfl (oy rfl rfl rfl h2 (op_call rfl Tryd.func53 nm53 rfl (.cons rfl (.d _) (.cons rfl (.d _) .nil)) (con53 s.res.rej x (by omega)) rfl)) ?_
      refine rg_put (d := 27) (v := .d (.fl (.bool ((List.any s.res.rej (fun y => isD y.d x)))))) rfl (og rfl (op_pick rfl rfl (by rw [h2]; rfl) rfl)) ?_
      refine rg_put (d := 4) (v := .d (.fl (.bool ((List.any s.res.rej (fun y => isD y.d x)))))) rfl (og rfl (op_assign rfl rfl rfl)) ?_
      refine rg_done rfl ?_
      refine a_ret ?_
      show ∃ ds, ResL _ _ _ ds ∧ RV.of ds = _
      refine ⟨[.fl (.bool ((List.any s.res.rej (fun y => isD y.d x))))], (.cons (.tmp rfl (.d _)) .nil), ?_⟩
      have hu : knw s x = (List.any s.res.rej (fun y => isD y.d x)) := by unfold knw; simp only [h1, h2, Bool.true_and, Bool.false_and, Bool.and_true, Bool.and_false, Bool.or_true, Bool.or_false, Bool.true_or, Bool.false_or, Bool.not_true, Bool.not_false] <;> rfl
      rw [hu]; rfl
    · skip
      refine rg_put (d := 22) (v := .d (.fl undef)) rfl (on rfl rfl rfl h2) ?_
      refine rg_put (d := 23) (v := .d (.fl undef)) rfl (on rfl rfl rfl h2) ?_
      refine rg_put (d := 24) (v := .d (.fl undef)) rfl (on rfl rfl rfl h2) ?_
      refine rg_put (d := 25) (v := .d (.fl undef)) rfl (on rfl rfl rfl h2) ?_
      refine rg_put (d := 26) (v := .d (.fl undef)) rfl (on rfl rfl rfl h2) ?_
      refine rg_put (d := 27) (v := .d (.fl (.bool true))) rfl (og rfl (op_pick rfl rfl (by rw [h2]; rfl) rfl)) ?_
      refine rg_put (d := 4) (v := .d (.fl (.bool true))) rfl (og rfl (op_assign rfl rfl rfl)) ?_
      refine rg_done rfl ?_
      refine a_ret ?_
      show ∃ ds, ResL _ _ _ ds ∧ RV.of ds = _
      refine ⟨[.fl (.bool true)], (.cons (.tmp rfl (.d _)) .nil), ?_⟩
      have hu : knw s x = true := by unfold knw; simp only [h1, h2, Bool.true_and, Bool.false_and, Bool.and_true, Bool.and_false, Bool.or_true, Bool.or_false, Bool.true_or, Bool.false_or, Bool.not_true, Bool.not_false] <;> rfl
      rw [hu]; rfl
  · skip
    refine rg_put (d := 16) (v := .d (.fl undef)) rfl (on rfl rfl rfl h1) ?_
    refine rg_put (d := 17) (v := .d (.fl undef)) rfl (on rfl rfl rfl h1) ?_
    refine rg_put (d := 18) (v := .d (.fl undef)) rfl (on rfl rfl rfl h1) ?_
    refine rg_put (d := 19) (v := .d (.fl undef)) rfl (on rfl rfl rfl h1) ?_
    refine rg_put (d := 20) (v := .d (.fl (.bool true))) rfl (og rfl (op_pick rfl rfl (by rw [h1]; rfl) rfl)) ?_
    refine rg_put (d := 21) (v := .d (.fl (.bool true))) rfl (og rfl (op_move rfl rfl rfl)) ?_
    refine rg_put (d := 22) (v := .d (.fl undef)) rfl (on rfl rfl rfl rfl) ?_
    refine rg_put (d := 23) (v := .d (.fl undef)) rfl (on rfl rfl rfl rfl) ?_
    refine rg_put (d := 24) (v := .d (.fl undef)) rfl (on rfl rfl rfl rfl) ?_
    refine rg_put (d := 25) (v := .d (.fl undef)) rfl (on rfl rfl rfl rfl) ?_
    refine rg_put (d := 26) (v := .d (.fl undef)) rfl (on rfl rfl rfl rfl) ?_
    refine rg_put (d := 27) (v := .d (.fl (.bool true))) rfl (og rfl (op_pick rfl rfl rfl rfl)) ?_
    refine rg_put (d := 4) (v := .d (.fl (.bool true))) rfl (og rfl (op_assign rfl rfl rfl)) ?_
    refine rg_done rfl ?_
    refine a_ret ?_
    show ∃ ds, ResL _ _ _ ds ∧ RV.of ds = _
    refine ⟨[.fl (.bool true)], (.cons (.tmp rfl (.d _)) .nil), ?_⟩
    have hu : knw s x = true := by unfold knw; simp only [h1, Bool.true_and, Bool.false_and, Bool.and_true, Bool.and_false, Bool.or_true, Bool.or_false, Bool.true_or, Bool.false_or, Bool.not_true, Bool.not_false] <;> rfl
    rw [hu]; rfl
set_option maxHeartbeats 4000000 in
set_option maxRecDepth 100000 in
theorem knw24 (s : Sa) (x : So) (h1 : s.seen.length ≤ 1000) (h2 : s.rej.length ≤ 1000) (h3 : s.res.rej.length ≤ 1000) : Ctr Tryd.prog 24 [.ag (eSa s), .ag (eSo x)] (.d (.fl (.bool (knw s x)))) := by
  refine ctr (n := 55) (rs := #[.tmp 4]) (L := [(0, .d (.ag (eSa s))), (1, .d (.ag (eSo x)))]) Tryd.func24 rfl rfl rfl rfl rfl (fun w0 U0 => ?_)
  refine a_rseq ?_
  refine rg_nam (d := 2) (v := .pt 101 0) (m := 101) (nw := [(101, .bx 64 (eSa s))]) rfl (og rfl (of_eff (op_box 101 rfl rfl rfl rfl) rfl)) rfl ?_
  refine rg_nam (d := 3) (v := .pt 102 0) (m := 102) (nw := [(102, .bx 66 (eSo x))]) rfl (og rfl (of_eff (op_box 102 rfl rfl rfl rfl) rfl)) rfl ?_
  refine rg_put (d := 4) (v := .d (.fl (.bool false))) rfl (og rfl (op_assign rfl rfl rfl)) ?_
  refine rg_done rfl ?_
  refine a_seq ?_
  refine a_rseq ?_
  refine rg_put (d := 5) (v := .d (.fl (.int .i64 0))) rfl (og rfl (op_assign rfl rfl rfl)) ?_
  refine rg_done rfl ?_
  refine a_block ?_
  refine a_loop (ι := Nat) (fun k => SS [(0, .d (.ag (eSa s))), (1, .d (.ag (eSo x))), (2, .pt 101 0), (3, .pt 102 0), (5, .d (.fl (.int .i64 (k : Int))))] [(101, .bx 64 (eSa s)), (102, .bx 66 (eSo x))]) (fun k => k ≤ s.seen.length ∧ ∀ q, q < k → isD (ix s.seen q).d x = false) (fun k => s.seen.length - k) 0 (⟨by omega, fun q h => by omega⟩) (imp_forget rfl ⟨rfl, rfl, rfl, rfl, (by first | rfl | exact ci (by omega) | exact ci (by simp) | exact cd (by simp) | simp), trivial⟩ ⟨rfl, rfl, trivial⟩) (fun k hok => ?_)
  obtain ⟨hkk, hq⟩ := hok
  refine a_seq ?_
  refine a_rseq ?_
  refine rg_put (d := 8) (v := .d (.fl (.int .i64 (k : Int)))) rfl (og rfl (op_move rfl rfl rfl)) ?_
  refine rg_put (d := 9) (v := .pt 101 25) rfl (og rfl (of_eff (s_field_pt rfl Tryd.underlying64 rfl ti47 rfl rfl rfl) rfl)) ?_
  refine rg_put (d := 10) (v := .d (.sl 11 (List.map eSn s.seen))) rfl (og rfl (op_load_pt rfl Tryd.underlying47 rfl rfl rfl rfl rfl)) ?_
  refine rg_put (d := 11) (v := .d (.fl (.int .i64 (s.seen.length : Int)))) rfl (og rfl (s_len rfl Tryd.underlying47 rfl rfl)) ?_
  refine rg_put (d := 12) (v := .d (.fl (.bool ((decide ((k : Int) < (s.seen.length : Int))))))) rfl (og rfl (op_bin rfl rfl rfl (b_lss _ _ _ _) rfl)) ?_
  refine rg_done rfl ?_
  refine a_cond rfl (fun h1 => ?_) (fun h1 => ?_)
  · skip
    have h2 := t_dec h1
    refine a_skip ?_
    show A _ _ _ _ _ _ _
    refine a_seq ?_
    refine a_block ?_
    refine a_dseq (by kernel_rfl) ?_
    refine dr_put (d := 15) (v := .pt 101 25) rfl (og rfl (of_eff (s_field_pt rfl Tryd.underlying64 rfl ti47 rfl rfl rfl) rfl)) ?_
    refine dr_put (d := 16) (v := .d (.sl 11 (List.map eSn s.seen))) rfl (og rfl (op_load_pt rfl Tryd.underlying47 rfl rfl rfl rfl rfl)) ?_
    refine dr_put (d := 17) (v := .d (.fl (.int .i64 (k : Int)))) rfl (og rfl (op_move rfl rfl rfl)) ?_
    refine dr_put (d := 18) (v := .el ((eSn (ix s.seen k)))) rfl (og rfl (s_index rfl Tryd.underlying47 ti106 rfl rfl (by omega) (row_at (by omega)) rfl)) ?_
    refine dr_put (d := 19) (v := .el ((List.drop 0 ((eSn (ix s.seen k)))))) rfl (og rfl (of_eff (s_field_el rfl Tryd.underlying106 rfl ti104 rfl rfl rfl) rfl)) ?_
    refine dr_put (d := 20) (v := .d (.ag (eDe ((ix s.seen k).d)))) rfl (og rfl (of_eff (s_load_els rfl Tryd.underlying104 rfl ti104 rfl rfl rfl) rfl)) ?_
    refine dr_put (d := 21) (v := .d (.ag (eSo x))) rfl (og rfl (of_eff (s_load_pts rfl Tryd.underlying66 rfl ti66 rfl rfl rfl rfl) rfl)) ?_
    refine dr_put (d := 22) (v := .d (.fl (.bool ((isD ((ix s.seen k).d) x))))) rfl (og rfl (op_call rfl Tryd.func26 nm26 rfl (.cons rfl (.d _) (.cons rfl (.d _) .nil)) (isD26 ((ix s.seen k).d) x) rfl)) ?_
    refine dr_done rfl (by kernel_rfl) (by kernel_rfl) ?_
    refine a_cond rfl (fun h3 => ?_) (fun h3 => ?_)
    · skip
      refine a_rseq ?_
      refine rg_put (d := 4) (v := .d (.fl (.bool true))) rfl (og rfl (op_assign rfl rfl rfl)) ?_
      refine rg_done rfl ?_
      refine a_ret ?_
      show ∃ ds, ResL _ _ _ ds ∧ RV.of ds = _
      refine ⟨[.fl (.bool true)], (.cons (.tmp rfl (.d _)) .nil), ?_⟩
      have ha : (List.any s.seen (fun y => isD y.d x)) = true := any_at (by omega) h3
      have hu : knw s x = true := by unfold knw; simp only [ha, Bool.true_or, Bool.or_true]
      rw [hu]; rfl
    · skip
      refine a_skip ?_
      show A _ _ _ _ _ _ _
      refine a_region ?_
      refine rg_put (d := 13) (v := .d (.fl (.int .i64 (k : Int)))) rfl (og rfl (op_move rfl rfl rfl)) ?_
      refine rg_put (d := 14) (v := .d (.fl (.int .i64 (((k : Int) + 1))))) rfl (og rfl (op_bin rfl rfl rfl (fun x y w => b_add64 _ _ _ x y w (by omega)) rfl)) ?_
      refine rg_put (d := 5) (v := .d (.fl (.int .i64 (((k : Int) + 1))))) rfl (og rfl (op_assign rfl rfl rfl)) ?_
      refine rg_done rfl ?_
      have hx : isD (ix s.seen k).d x = false := h3
      show ∃ i, _ ∧ _ ∧ Imp _ _ _ _ _
      refine ⟨k + 1, ⟨by omega, fun q h => (Nat.lt_succ_iff_lt_or_eq.1 h).elim (hq q) (fun e => by rw [e]; exact hx)⟩, by omega, imp_forget rfl ⟨rfl, rfl, rfl, rfl, (by first | rfl | exact ci (by omega) | exact ci (by simp) | exact cd (by simp) | simp), trivial⟩ ⟨rfl, rfl, trivial⟩⟩
  · skip
    have h4 := f_dec h1
    refine a_exit ?_
    show A _ _ _ _ _ _ _
    refine a_seq ?_
    refine a_rseq ?_
    refine rg_put (d := 6) (v := .d (.fl (.int .i64 0))) rfl (og rfl (op_assign rfl rfl rfl)) ?_
    refine rg_done rfl ?_
    refine a_block ?_
    refine a_loop (ι := Nat) (fun j => SS [(0, .d (.ag (eSa s))), (1, .d (.ag (eSo x))), (2, .pt 101 0), (3, .pt 102 0), (5, .d (.fl (.int .i64 (k : Int)))), (12, .d (.fl (.bool ((decide ((k : Int) < (s.seen.length : Int))))))), (6, .d (.fl (.int .i64 (j : Int))))] [(101, .bx 64 (eSa s)), (102, .bx 66 (eSo x))]) (fun j => j ≤ s.rej.length ∧ ∀ q, q < j → isD (ix s.rej q).d x = false) (fun j => s.rej.length - j) 0 (⟨by omega, fun q h => by omega⟩) (imp_forget rfl ⟨rfl, rfl, rfl, rfl, rfl, rfl, (by first | rfl | exact ci (by omega) | exact ci (by simp) | exact cd (by simp) | simp), trivial⟩ ⟨rfl, rfl, trivial⟩) (fun j hok => ?_)
    obtain ⟨hkj, hr⟩ := hok
    refine a_seq ?_
    refine a_rseq ?_
    refine rg_put (d := 23) (v := .d (.fl (.int .i64 (j : Int)))) rfl (og rfl (op_move rfl rfl rfl)) ?_
    refine rg_put (d := 24) (v := .pt 101 26) rfl (og rfl (of_eff (s_field_pt rfl Tryd.underlying64 rfl ti48 rfl rfl rfl) rfl)) ?_
    refine rg_put (d := 25) (v := .d (.sl 8 (List.map eRj s.rej))) rfl (og rfl (op_load_pt rfl Tryd.underlying48 rfl rfl rfl rfl rfl)) ?_
    refine rg_put (d := 26) (v := .d (.fl (.int .i64 (s.rej.length : Int)))) rfl (og rfl (s_len rfl Tryd.underlying48 rfl rfl)) ?_
    refine rg_put (d := 27) (v := .d (.fl (.bool ((decide ((j : Int) < (s.rej.length : Int))))))) rfl (og rfl (op_bin rfl rfl rfl (b_lss _ _ _ _) rfl)) ?_
    refine rg_done rfl ?_
    refine a_cond rfl (fun h5 => ?_) (fun h5 => ?_)
    · skip
      have h6 := t_dec h5
      refine a_skip ?_
      show A _ _ _ _ _ _ _
      refine a_seq ?_
      refine a_block ?_
      refine a_dseq (by kernel_rfl) ?_
      refine dr_put (d := 30) (v := .pt 101 26) rfl (og rfl (of_eff (s_field_pt rfl Tryd.underlying64 rfl ti48 rfl rfl rfl) rfl)) ?_
      refine dr_put (d := 31) (v := .d (.sl 8 (List.map eRj s.rej))) rfl (og rfl (op_load_pt rfl Tryd.underlying48 rfl rfl rfl rfl rfl)) ?_
      refine dr_put (d := 32) (v := .d (.fl (.int .i64 (j : Int)))) rfl (og rfl (op_move rfl rfl rfl)) ?_
      refine dr_put (d := 33) (v := .el ((eRj (ix s.rej j)))) rfl (og rfl (s_index rfl Tryd.underlying48 ti109 rfl rfl (by omega) (row_at (by omega)) rfl)) ?_
      refine dr_put (d := 34) (v := .el ((List.drop 0 ((eRj (ix s.rej j)))))) rfl (og rfl (of_eff (s_field_el rfl Tryd.underlying109 rfl ti104 rfl rfl rfl) rfl)) ?_
      refine dr_put (d := 35) (v := .d (.ag (eDe ((ix s.rej j).d)))) rfl (og rfl (of_eff (s_load_els rfl Tryd.underlying104 rfl ti104 rfl rfl rfl) rfl)) ?_
      refine dr_put (d := 36) (v := .d (.ag (eSo x))) rfl (og rfl (of_eff (s_load_pts rfl Tryd.underlying66 rfl ti66 rfl rfl rfl rfl) rfl)) ?_
      refine dr_put (d := 37) (v := .d (.fl (.bool ((isD ((ix s.rej j).d) x))))) rfl (og rfl (op_call rfl Tryd.func26 nm26 rfl (.cons rfl (.d _) (.cons rfl (.d _) .nil)) (isD26 ((ix s.rej j).d) x) rfl)) ?_
      refine dr_done rfl (by kernel_rfl) (by kernel_rfl) ?_
      refine a_cond rfl (fun h7 => ?_) (fun h7 => ?_)
      · skip
        refine a_rseq ?_
        refine rg_put (d := 4) (v := .d (.fl (.bool true))) rfl (og rfl (op_assign rfl rfl rfl)) ?_
        refine rg_done rfl ?_
        refine a_ret ?_
        show ∃ ds, ResL _ _ _ ds ∧ RV.of ds = _
        refine ⟨[.fl (.bool true)], (.cons (.tmp rfl (.d _)) .nil), ?_⟩
        have ha : (List.any s.rej (fun y => isD y.d x)) = true := any_at (by omega) h7
        have hu : knw s x = true := by unfold knw; simp only [ha, Bool.true_or, Bool.or_true]
        rw [hu]; rfl
      · skip
        refine a_skip ?_
        show A _ _ _ _ _ _ _
        refine a_region ?_
        refine rg_put (d := 28) (v := .d (.fl (.int .i64 (j : Int)))) rfl (og rfl (op_move rfl rfl rfl)) ?_
        refine rg_put (d := 29) (v := .d (.fl (.int .i64 (((j : Int) + 1))))) rfl (og rfl (op_bin rfl rfl rfl (fun x y w => b_add64 _ _ _ x y w (by omega)) rfl)) ?_
        refine rg_put (d := 6) (v := .d (.fl (.int .i64 (((j : Int) + 1))))) rfl (og rfl (op_assign rfl rfl rfl)) ?_
        refine rg_done rfl ?_
        have hx : isD (ix s.rej j).d x = false := h7
        show ∃ i, _ ∧ _ ∧ Imp _ _ _ _ _
        refine ⟨j + 1, ⟨by omega, fun q h => (Nat.lt_succ_iff_lt_or_eq.1 h).elim (hr q) (fun e => by rw [e]; exact hx)⟩, by omega, imp_forget rfl ⟨rfl, rfl, rfl, rfl, rfl, rfl, (by first | rfl | exact ci (by omega) | exact ci (by simp) | exact cd (by simp) | simp), trivial⟩ ⟨rfl, rfl, trivial⟩⟩
    · skip
      have h8 := f_dec h5
      refine a_exit ?_
      show A _ _ _ _ _ _ _
      refine a_seq ?_
      refine a_rseq ?_
      refine rg_put (d := 7) (v := .d (.fl (.int .i64 0))) rfl (og rfl (op_assign rfl rfl rfl)) ?_
      refine rg_done rfl ?_
      refine a_block ?_
      refine a_loop (ι := Nat) (fun m => SS [(0, .d (.ag (eSa s))), (1, .d (.ag (eSo x))), (2, .pt 101 0), (3, .pt 102 0), (5, .d (.fl (.int .i64 (k : Int)))), (6, .d (.fl (.int .i64 (j : Int)))), (12, .d (.fl (.bool ((decide ((k : Int) < (s.seen.length : Int))))))), (27, .d (.fl (.bool ((decide ((j : Int) < (s.rej.length : Int))))))), (7, .d (.fl (.int .i64 (m : Int))))] [(101, .bx 64 (eSa s)), (102, .bx 66 (eSo x))]) (fun m => m ≤ s.res.rej.length ∧ ∀ q, q < m → isD (ix s.res.rej q).d x = false) (fun m => s.res.rej.length - m) 0 (⟨by omega, fun q h => by omega⟩) (imp_forget rfl ⟨rfl, rfl, rfl, rfl, rfl, rfl, rfl, rfl, (by first | rfl | exact ci (by omega) | exact ci (by simp) | exact cd (by simp) | simp), trivial⟩ ⟨rfl, rfl, trivial⟩) (fun m hok => ?_)
      obtain ⟨hkm, ht⟩ := hok
      refine a_seq ?_
      refine a_rseq ?_
      refine rg_put (d := 38) (v := .d (.fl (.int .i64 (m : Int)))) rfl (og rfl (op_move rfl rfl rfl)) ?_
      refine rg_put (d := 39) (v := .pt 101 29) rfl (og rfl (of_eff (s_field_pt rfl Tryd.underlying64 rfl ti56 rfl rfl rfl) rfl)) ?_
      refine rg_put (d := 40) (v := .pt 101 30) rfl (og rfl (of_eff (s_field_pt rfl Tryd.underlying56 rfl ti48 rfl rfl rfl) rfl)) ?_
      refine rg_put (d := 41) (v := .d (.sl 8 (List.map eRj s.res.rej))) rfl (og rfl (op_load_pt rfl Tryd.underlying48 rfl rfl rfl rfl rfl)) ?_
      refine rg_put (d := 42) (v := .d (.fl (.int .i64 (s.res.rej.length : Int)))) rfl (og rfl (s_len rfl Tryd.underlying48 rfl rfl)) ?_
      refine rg_put (d := 43) (v := .d (.fl (.bool ((decide ((m : Int) < (s.res.rej.length : Int))))))) rfl (og rfl (op_bin rfl rfl rfl (b_lss _ _ _ _) rfl)) ?_
      refine rg_done rfl ?_
      refine a_cond rfl (fun h9 => ?_) (fun h9 => ?_)
      · skip
        have h10 := t_dec h9
        refine a_skip ?_
        show A _ _ _ _ _ _ _
        refine a_seq ?_
        refine a_block ?_
        refine a_dseq (by kernel_rfl) ?_
        refine dr_put (d := 46) (v := .pt 101 29) rfl (og rfl (of_eff (s_field_pt rfl Tryd.underlying64 rfl ti56 rfl rfl rfl) rfl)) ?_
        refine dr_put (d := 47) (v := .pt 101 30) rfl (og rfl (of_eff (s_field_pt rfl Tryd.underlying56 rfl ti48 rfl rfl rfl) rfl)) ?_
        refine dr_put (d := 48) (v := .d (.sl 8 (List.map eRj s.res.rej))) rfl (og rfl (op_load_pt rfl Tryd.underlying48 rfl rfl rfl rfl rfl)) ?_
        refine dr_put (d := 49) (v := .d (.fl (.int .i64 (m : Int)))) rfl (og rfl (op_move rfl rfl rfl)) ?_
        refine dr_put (d := 50) (v := .el ((eRj (ix s.res.rej m)))) rfl (og rfl (s_index rfl Tryd.underlying48 ti109 rfl rfl (by omega) (row_at (by omega)) rfl)) ?_
        refine dr_put (d := 51) (v := .el ((List.drop 0 ((eRj (ix s.res.rej m)))))) rfl (og rfl (of_eff (s_field_el rfl Tryd.underlying109 rfl ti104 rfl rfl rfl) rfl)) ?_
        refine dr_put (d := 52) (v := .d (.ag (eDe ((ix s.res.rej m).d)))) rfl (og rfl (of_eff (s_load_els rfl Tryd.underlying104 rfl ti104 rfl rfl rfl) rfl)) ?_
        refine dr_put (d := 53) (v := .d (.ag (eSo x))) rfl (og rfl (of_eff (s_load_pts rfl Tryd.underlying66 rfl ti66 rfl rfl rfl rfl) rfl)) ?_
        refine dr_put (d := 54) (v := .d (.fl (.bool ((isD ((ix s.res.rej m).d) x))))) rfl (og rfl (op_call rfl Tryd.func26 nm26 rfl (.cons rfl (.d _) (.cons rfl (.d _) .nil)) (isD26 ((ix s.res.rej m).d) x) rfl)) ?_
        refine dr_done rfl (by kernel_rfl) (by kernel_rfl) ?_
        refine a_cond rfl (fun h11 => ?_) (fun h11 => ?_)
        · skip
          refine a_rseq ?_
          refine rg_put (d := 4) (v := .d (.fl (.bool true))) rfl (og rfl (op_assign rfl rfl rfl)) ?_
          refine rg_done rfl ?_
          refine a_ret ?_
          show ∃ ds, ResL _ _ _ ds ∧ RV.of ds = _
          refine ⟨[.fl (.bool true)], (.cons (.tmp rfl (.d _)) .nil), ?_⟩
          have ha : (List.any s.res.rej (fun y => isD y.d x)) = true := any_at (by omega) h11
          have hu : knw s x = true := by unfold knw; simp only [ha, Bool.true_or, Bool.or_true]
          rw [hu]; rfl
        · skip
          refine a_skip ?_
          show A _ _ _ _ _ _ _
          refine a_region ?_
          refine rg_put (d := 44) (v := .d (.fl (.int .i64 (m : Int)))) rfl (og rfl (op_move rfl rfl rfl)) ?_
          refine rg_put (d := 45) (v := .d (.fl (.int .i64 (((m : Int) + 1))))) rfl (og rfl (op_bin rfl rfl rfl (fun x y w => b_add64 _ _ _ x y w (by omega)) rfl)) ?_
          refine rg_put (d := 7) (v := .d (.fl (.int .i64 (((m : Int) + 1))))) rfl (og rfl (op_assign rfl rfl rfl)) ?_
          refine rg_done rfl ?_
          have hx : isD (ix s.res.rej m).d x = false := h11
          show ∃ i, _ ∧ _ ∧ Imp _ _ _ _ _
          refine ⟨m + 1, ⟨by omega, fun q h => (Nat.lt_succ_iff_lt_or_eq.1 h).elim (ht q) (fun e => by rw [e]; exact hx)⟩, by omega, imp_forget rfl ⟨rfl, rfl, rfl, rfl, rfl, rfl, rfl, rfl, (by first | rfl | exact ci (by omega) | exact ci (by simp) | exact cd (by simp) | simp), trivial⟩ ⟨rfl, rfl, trivial⟩⟩
      · skip
        have h12 := f_dec h9
        refine a_exit ?_
        show A _ _ _ _ _ _ _
        refine a_rseq ?_
        refine rg_put (d := 4) (v := .d (.fl (.bool false))) rfl (og rfl (op_assign rfl rfl rfl)) ?_
        refine rg_done rfl ?_
        refine a_ret ?_
        show ∃ ds, ResL _ _ _ ds ∧ RV.of ds = _
        refine ⟨[.fl (.bool false)], (.cons (.tmp rfl (.d _)) .nil), ?_⟩
        have g1 : (List.any s.seen (fun y => isD y.d x)) = false := any_no (fun q h => hq q (by omega))
        have g2 : (List.any s.rej (fun y => isD y.d x)) = false := any_no (fun q h => hr q (by omega))
        have g3 : (List.any s.res.rej (fun y => isD y.d x)) = false := any_no (fun q h => ht q (by omega))
        have hu : knw s x = false := by unfold knw; simp only [g1, g2, g3, Bool.or_false]
        rw [hu]; rfl
set_option maxHeartbeats 4000000 in
set_option maxRecDepth 100000 in
theorem ix55 (l : List So) (x : So) (hl : l.length ≤ 9223372036854775807) : Ctr Tryd.prog 55 [.sl 2 (List.map eSo l), .ag (eSo x)] (.d (.fl (.int .i64 (idx (fun q => soE q x) l)))) := by
  refine ctr (n := 19) (rs := #[.tmp 4]) (L := [(0, .d (.sl 2 (List.map eSo l))), (1, .d (.ag (eSo x)))]) Tryd.func55 rfl rfl rfl rfl rfl (fun w0 U0 => ?_)
  refine a_rseq ?_
  refine rg_nam (d := 3) (v := .pt 101 0) (m := 101) (nw := [(101, .bx 66 (eSo x))]) rfl (og rfl (of_eff (op_box 101 rfl rfl rfl rfl) rfl)) rfl ?_
  refine rg_put (d := 4) (v := .d (.fl (.int .i64 0))) rfl (og rfl (op_assign rfl rfl rfl)) ?_
  refine rg_done rfl ?_
  refine a_seq ?_
  refine a_rseq ?_
  refine rg_put (d := 6) (v := .d (.sl 2 (List.map eSo l))) rfl (og rfl (op_move rfl rfl rfl)) ?_
  refine rg_put (d := 7) (v := .d (.fl (.int .i64 (l.length : Int)))) rfl (og rfl (s_len rfl Tryd.underlying85 rfl rfl)) ?_
  refine rg_put (d := 8) (v := .d (.fl (.int .i64 0))) rfl (og rfl (op_move rfl rfl rfl)) ?_
  refine rg_done rfl ?_
  refine a_block ?_
  refine a_loop (ι := Nat) (fun k => SS [(0, .d (.sl 2 (List.map eSo l))), (1, .d (.ag (eSo x))), (3, .pt 101 0), (7, .d (.fl (.int .i64 (l.length : Int)))), (8, .d (.fl (.int .i64 (k : Int))))] [(101, .bx 66 (eSo x))]) (fun k => k ≤ l.length ∧ ∀ q, q < k → soE (ix l q) x = false) (fun k => l.length - k) 0 (⟨by omega, fun q h => by omega⟩) (imp_forget rfl ⟨rfl, rfl, rfl, rfl, (by first | rfl | exact ci (by omega) | exact ci (by simp) | exact cd (by simp) | simp), trivial⟩ ⟨rfl, trivial⟩) (fun k hok => ?_)
  obtain ⟨hkk, hq⟩ := hok
  refine a_rseq ?_
  refine rg_put (d := 9) (v := .d (.fl (.bool ((decide ((k : Int) < (l.length : Int))))))) rfl (og rfl (op_bin rfl rfl rfl (b_lss _ _ _ _) rfl)) ?_
  refine rg_done rfl ?_
  refine a_seq ?_
  refine a_cond rfl (fun h1 => ?_) (fun h1 => ?_)
  · skip
    have h2 := t_dec h1
    refine a_skip ?_
    show A _ _ _ _ _ _ _
    refine a_seq ?_
    refine a_block ?_
    refine a_rseq ?_
    refine rg_put (d := 10) (v := .d (.fl (.int .i64 (k : Int)))) rfl (og rfl (op_move rfl rfl rfl)) ?_
    refine rg_put (d := 5) (v := .d (.fl (.int .i64 (k : Int)))) rfl (og rfl (op_assign rfl rfl rfl)) ?_
    refine rg_done rfl ?_
    refine a_dseq (by kernel_rfl) ?_
    refine dr_put (d := 11) (v := .d (.ag (eSo x))) rfl (og rfl (of_eff (s_load_pts rfl Tryd.underlying66 rfl ti66 rfl rfl rfl rfl) rfl)) ?_
    refine dr_put (d := 12) (v := .d (.sl 2 (List.map eSo l))) rfl (og rfl (op_move rfl rfl rfl)) ?_
    refine dr_put (d := 13) (v := .d (.fl (.int .i64 (k : Int)))) rfl (og rfl (op_move rfl rfl rfl)) ?_
    refine dr_put (d := 14) (v := .el ((eSo (ix l k)))) rfl (og rfl (s_index rfl Tryd.underlying85 ti66 rfl rfl (by omega) (row_at (by omega)) rfl)) ?_
    refine dr_put (d := 15) (v := .d (.ag (eSo (ix l k)))) rfl (og rfl (of_eff (s_load_els rfl Tryd.underlying66 rfl ti66 rfl rfl rfl) rfl)) ?_
    refine dr_put (d := 16) (v := .d (.fl (.bool ((soE (ix l k) x))))) rfl (og rfl (op_eqS [.string x.dev, .int .i64 x.seq] [.string ((ix l k).dev), .int .i64 ((ix l k).seq)] rfl rfl rfl (b := (soE (ix l k) x)) (fun ww => eqlS66 x (ix l k) _ _ ww) rfl)) ?_
    refine dr_done rfl (by kernel_rfl) (by kernel_rfl) ?_
    refine a_cond rfl (fun h3 => ?_) (fun h3 => ?_)
    · skip
      refine a_rseq ?_
      refine rg_put (d := 17) (v := .d (.fl (.int .i64 (k : Int)))) rfl (og rfl (op_move rfl rfl rfl)) ?_
      refine rg_put (d := 4) (v := .d (.fl (.int .i64 (k : Int)))) rfl (og rfl (op_assign rfl rfl rfl)) ?_
      refine rg_done rfl ?_
      refine a_ret ?_
      show ∃ ds, ResL _ _ _ ds ∧ RV.of ds = _
      refine ⟨[.fl (.int .i64 (k : Int))], (.cons (.tmp rfl (.d _)) .nil), ?_⟩
      have hu : idx (fun q => soE q x) l = (k : Int) := idx_at (by omega) hq h3
      rw [hu]; rfl
    · skip
      refine a_skip ?_
      show A _ _ _ _ _ _ _
      refine a_region ?_
      refine rg_put (d := 18) (v := .d (.fl (.int .i64 (((k : Int) + 1))))) rfl (og rfl (op_bin rfl rfl rfl (fun x y w => b_add64 _ _ _ x y w (by omega)) rfl)) ?_
      refine rg_put (d := 8) (v := .d (.fl (.int .i64 (((k : Int) + 1))))) rfl (og rfl (op_move rfl rfl rfl)) ?_
      refine rg_done rfl ?_
      have hx : soE (ix l k) x = false := h3
      show ∃ i, _ ∧ _ ∧ Imp _ _ _ _ _
      refine ⟨k + 1, ⟨by omega, fun q h => (Nat.lt_succ_iff_lt_or_eq.1 h).elim (hq q) (fun e => by rw [e]; exact hx)⟩, by omega, imp_forget rfl ⟨rfl, rfl, rfl, rfl, (by first | rfl | exact ci (by omega) | exact ci (by simp) | exact cd (by simp) | simp), trivial⟩ ⟨rfl, trivial⟩⟩
  · skip
    have h4 := f_dec h1
    refine a_exit ?_
    show A _ _ _ _ _ _ _
    refine a_rseq ?_
    refine rg_put (d := 4) (v := .d (.fl (.int .i64 (-1)))) rfl (og rfl (op_assign rfl rfl rfl)) ?_
    refine rg_done rfl ?_
    refine a_ret ?_
    show ∃ ds, ResL _ _ _ ds ∧ RV.of ds = _
    refine ⟨[.fl (.int .i64 (-1))], (.cons (.tmp rfl (.d _)) .nil), ?_⟩
    have hu : idx (fun q => soE q x) l = -1 := idx_no (fun q h => hq q (by omega))
    rw [hu]; rfl
set_option maxHeartbeats 4000000 in
set_option maxRecDepth 100000 in
theorem has22 (l : List So) (x : So) (hl : l.length ≤ 9223372036854775807) : Ctr Tryd.prog 22 [.sl 2 (List.map eSo l), .ag (eSo x)] (.d (.fl (.bool (hasP l x)))) := by
  refine ctr (n := 9) (rs := #[.tmp 4]) (L := [(0, .d (.sl 2 (List.map eSo l))), (1, .d (.ag (eSo x)))]) Tryd.func22 rfl rfl rfl rfl rfl (fun w0 U0 => ?_)
  refine a_rseq ?_
  refine rg_nam (d := 3) (v := .pt 101 0) (m := 101) (nw := [(101, .bx 66 (eSo x))]) rfl (og rfl (of_eff (op_box 101 rfl rfl rfl rfl) rfl)) rfl ?_
  refine rg_put (d := 4) (v := .d (.fl (.bool false))) rfl (og rfl (op_assign rfl rfl rfl)) ?_
  refine rg_done rfl ?_
  refine a_rseq ?_
  refine rg_put (d := 5) (v := .d (.sl 2 (List.map eSo l))) rfl (og rfl (op_move rfl rfl rfl)) ?_
  refine rg_put (d := 6) (v := .d (.ag (eSo x))) rfl (og rfl (of_eff (s_load_pts rfl Tryd.underlying66 rfl ti66 rfl rfl rfl rfl) rfl)) ?_
  refine rg_put (d := 7) (v := .d (.fl (.int .i64 ((idx (fun q => soE q x) l))))) rfl (og rfl (op_call rfl Tryd.func55 nm55 rfl (.cons rfl (.d _) (.cons rfl (.d _) .nil)) (ix55 l x (by omega)) rfl)) ?_
  refine rg_put (d := 8) (v := .d (.fl (.bool ((decide (0 ≤ (idx (fun q => soE q x) l))))))) rfl (og rfl (op_bin rfl rfl rfl (b_geq _ _ _ _) rfl)) ?_
  refine rg_put (d := 4) (v := .d (.fl (.bool ((decide (0 ≤ (idx (fun q => soE q x) l))))))) rfl (og rfl (op_assign rfl rfl rfl)) ?_
  refine rg_done rfl ?_
  refine a_ret ?_
  show ∃ ds, ResL _ _ _ ds ∧ RV.of ds = _
  refine ⟨[.fl (.bool ((decide (0 ≤ (idx (fun q => soE q x) l)))))], (.cons (.tmp rfl (.d _)) .nil), ?_⟩
  rw [idx_any]; rfl
set_option maxHeartbeats 4000000 in
set_option maxRecDepth 100000 in
theorem cl29 (y : Pg) (id : ByteArray) : Ctr Tryd.prog 29 [.ag (ePg y), .el [.fl (.string id)]] (.d (.fl (.bool (sEq y.id id)))) := by
  refine ctr (n := 8) (rs := #[.tmp 3]) (L := [(0, .d (.ag (ePg y))), (1, .el [.fl (.string id)])]) Tryd.func29 rfl rfl rfl rfl rfl (fun w0 U0 => ?_)
  refine a_rseq ?_
  refine rg_nam (d := 2) (v := .pt 101 0) (m := 101) (nw := [(101, .bx 87 (ePg y))]) rfl (og rfl (of_eff (op_box 101 rfl rfl rfl rfl) rfl)) rfl ?_
  refine rg_put (d := 3) (v := .d (.fl (.bool false))) rfl (og rfl (op_assign rfl rfl rfl)) ?_
  refine rg_done rfl ?_
  refine a_rseq ?_
  refine rg_put (d := 4) (v := .pt 101 0) rfl (og rfl (of_eff (s_field_pt rfl Tryd.underlying87 rfl ti9 rfl rfl rfl) rfl)) ?_
  refine rg_put (d := 5) (v := .d (.fl (.string y.id))) rfl (og rfl (op_load_pt rfl Tryd.underlying9 rfl rfl rfl rfl rfl)) ?_
  refine rg_put (d := 6) (v := .d (.fl (.string id))) rfl (og rfl (op_load_el rfl Tryd.underlying9 rfl rfl rfl rfl)) ?_
  refine rg_put (d := 7) (v := .d (.fl (.bool (sEq y.id id)))) rfl (og rfl (op_bin rfl rfl rfl (b_seq _ _ _) rfl)) ?_
  refine rg_put (d := 3) (v := .d (.fl (.bool (sEq y.id id)))) rfl (og rfl (op_assign rfl rfl rfl)) ?_
  refine rg_done rfl ?_
  refine a_ret ?_
  show ∃ ds, ResL _ _ _ ds ∧ RV.of ds = _
  refine ⟨[.fl (.bool (sEq y.id id))], (.cons (.tmp rfl (.d _)) .nil), ?_⟩
  rfl
set_option maxHeartbeats 4000000 in
set_option maxRecDepth 100000 in
theorem cl32 (y : Cg) (id : ByteArray) : Ctr Tryd.prog 32 [.ag (eCg y), .el [.fl (.string id)]] (.d (.fl (.bool (sEq y.key id)))) := by
  refine ctr (n := 8) (rs := #[.tmp 3]) (L := [(0, .d (.ag (eCg y))), (1, .el [.fl (.string id)])]) Tryd.func32 rfl rfl rfl rfl rfl (fun w0 U0 => ?_)
  refine a_rseq ?_
  refine rg_nam (d := 2) (v := .pt 101 0) (m := 101) (nw := [(101, .bx 93 (eCg y))]) rfl (og rfl (of_eff (op_box 101 rfl rfl rfl rfl) rfl)) rfl ?_
  refine rg_put (d := 3) (v := .d (.fl (.bool false))) rfl (og rfl (op_assign rfl rfl rfl)) ?_
  refine rg_done rfl ?_
  refine a_rseq ?_
  refine rg_put (d := 4) (v := .pt 101 0) rfl (og rfl (of_eff (s_field_pt rfl Tryd.underlying93 rfl ti9 rfl rfl rfl) rfl)) ?_
  refine rg_put (d := 5) (v := .d (.fl (.string y.key))) rfl (og rfl (op_load_pt rfl Tryd.underlying9 rfl rfl rfl rfl rfl)) ?_
  refine rg_put (d := 6) (v := .d (.fl (.string id))) rfl (og rfl (op_load_el rfl Tryd.underlying9 rfl rfl rfl rfl)) ?_
  refine rg_put (d := 7) (v := .d (.fl (.bool (sEq y.key id)))) rfl (og rfl (op_bin rfl rfl rfl (b_seq _ _ _) rfl)) ?_
  refine rg_put (d := 3) (v := .d (.fl (.bool (sEq y.key id)))) rfl (og rfl (op_assign rfl rfl rfl)) ?_
  refine rg_done rfl ?_
  refine a_ret ?_
  show ∃ ds, ResL _ _ _ ds ∧ RV.of ds = _
  refine ⟨[.fl (.bool (sEq y.key id))], (.cons (.tmp rfl (.d _)) .nil), ?_⟩
  rfl
set_option maxHeartbeats 4000000 in
set_option maxRecDepth 100000 in
theorem cl66 (y : Cg) (id : ByteArray) : Ctr Tryd.prog 66 [.ag (eCg y), .el [.fl (.string id)]] (.d (.fl (.bool (sEq y.key id)))) := by
  refine ctr (n := 8) (rs := #[.tmp 3]) (L := [(0, .d (.ag (eCg y))), (1, .el [.fl (.string id)])]) Tryd.func66 rfl rfl rfl rfl rfl (fun w0 U0 => ?_)
  refine a_rseq ?_
  refine rg_nam (d := 2) (v := .pt 101 0) (m := 101) (nw := [(101, .bx 93 (eCg y))]) rfl (og rfl (of_eff (op_box 101 rfl rfl rfl rfl) rfl)) rfl ?_
  refine rg_put (d := 3) (v := .d (.fl (.bool false))) rfl (og rfl (op_assign rfl rfl rfl)) ?_
  refine rg_done rfl ?_
  refine a_rseq ?_
  refine rg_put (d := 4) (v := .pt 101 0) rfl (og rfl (of_eff (s_field_pt rfl Tryd.underlying93 rfl ti9 rfl rfl rfl) rfl)) ?_
  refine rg_put (d := 5) (v := .d (.fl (.string y.key))) rfl (og rfl (op_load_pt rfl Tryd.underlying9 rfl rfl rfl rfl rfl)) ?_
  refine rg_put (d := 6) (v := .d (.fl (.string id))) rfl (og rfl (op_load_el rfl Tryd.underlying9 rfl rfl rfl rfl)) ?_
  refine rg_put (d := 7) (v := .d (.fl (.bool (sEq y.key id)))) rfl (og rfl (op_bin rfl rfl rfl (b_seq _ _ _) rfl)) ?_
  refine rg_put (d := 3) (v := .d (.fl (.bool (sEq y.key id)))) rfl (og rfl (op_assign rfl rfl rfl)) ?_
  refine rg_done rfl ?_
  refine a_ret ?_
  show ∃ ds, ResL _ _ _ ds ∧ RV.of ds = _
  refine ⟨[.fl (.bool (sEq y.key id))], (.cons (.tmp rfl (.d _)) .nil), ?_⟩
  rfl
set_option maxHeartbeats 4000000 in
set_option maxRecDepth 100000 in
theorem ix61a (l : List Pg) (id : ByteArray) (hl : l.length ≤ 9223372036854775807) : Ctr Tryd.prog 61 [.sl 8 (List.map ePg l), .fn 29 [.el [.fl (.string id)]]] (.d (.fl (.int .i64 (pix l id)))) := by
  refine ctr (n := 19) (rs := #[.tmp 4]) (L := [(0, .d (.sl 8 (List.map ePg l))), (1, .d (.fn 29 [.el [.fl (.string id)]]))]) Tryd.func61 rfl rfl rfl rfl rfl (fun w0 U0 => ?_)
  refine a_rseq ?_
  refine rg_put (d := 4) (v := .d (.fl (.int .i64 0))) rfl (og rfl (op_assign rfl rfl rfl)) ?_
  refine rg_done rfl ?_
  refine a_seq ?_
  refine a_rseq ?_
  refine rg_put (d := 6) (v := .d (.sl 8 (List.map ePg l))) rfl (og rfl (op_move rfl rfl rfl)) ?_
  refine rg_put (d := 7) (v := .d (.fl (.int .i64 (l.length : Int)))) rfl (og rfl (s_len rfl Tryd.underlying50 rfl rfl)) ?_
  refine rg_put (d := 8) (v := .d (.fl (.int .i64 0))) rfl (og rfl (op_move rfl rfl rfl)) ?_
  refine rg_done rfl ?_
  refine a_block ?_
  refine a_loop (ι := Nat) (fun k => SS [(0, .d (.sl 8 (List.map ePg l))), (1, .d (.fn 29 [.el [.fl (.string id)]])), (7, .d (.fl (.int .i64 (l.length : Int)))), (8, .d (.fl (.int .i64 (k : Int))))] []) (fun k => k ≤ l.length ∧ ∀ q, q < k → sEq (ix l q).id id = false) (fun k => l.length - k) 0 (⟨by omega, fun q h => by omega⟩) (imp_forget rfl ⟨rfl, rfl, rfl, (by first | rfl | exact ci (by omega) | exact ci (by simp) | exact cd (by simp) | simp), trivial⟩ trivial) (fun k hok => ?_)
  obtain ⟨hkk, hq⟩ := hok
  refine a_rseq ?_
  refine rg_put (d := 9) (v := .d (.fl (.bool ((decide ((k : Int) < (l.length : Int))))))) rfl (og rfl (op_bin rfl rfl rfl (b_lss _ _ _ _) rfl)) ?_
  refine rg_done rfl ?_
  refine a_seq ?_
  refine a_cond rfl (fun h1 => ?_) (fun h1 => ?_)
  · skip
    have h2 := t_dec h1
    refine a_skip ?_
    show A _ _ _ _ _ _ _
    refine a_seq ?_
    refine a_block ?_
    refine a_rseq ?_
    refine rg_put (d := 10) (v := .d (.fl (.int .i64 (k : Int)))) rfl (og rfl (op_move rfl rfl rfl)) ?_
    refine rg_put (d := 5) (v := .d (.fl (.int .i64 (k : Int)))) rfl (og rfl (op_assign rfl rfl rfl)) ?_
    refine rg_done rfl ?_
    refine a_rseq ?_
    refine rg_put (d := 11) (v := .d (.fn 29 [.el [.fl (.string id)]])) rfl (og rfl (op_move rfl rfl rfl)) ?_
    refine rg_put (d := 12) (v := .d (.sl 8 (List.map ePg l))) rfl (og rfl (op_move rfl rfl rfl)) ?_
    refine rg_put (d := 13) (v := .d (.fl (.int .i64 (k : Int)))) rfl (og rfl (op_move rfl rfl rfl)) ?_
    refine rg_put (d := 14) (v := .el ((ePg (ix l k)))) rfl (og rfl (s_index rfl Tryd.underlying50 ti87 rfl rfl (by omega) (row_at (by omega)) rfl)) ?_
    refine rg_put (d := 15) (v := .d (.ag (ePg (ix l k)))) rfl (og rfl (of_eff (s_load_els rfl Tryd.underlying87 rfl ti87 rfl rfl rfl) rfl)) ?_
    refine rg_put (d := 16) (v := .d (.fl (.bool ((sEq (ix l k).id id))))) rfl (og rfl (op_callV rfl rfl ⟨_, Tryd.func29, nm29, rfl⟩ (.cons rfl (.d _) .nil) (cl29 (ix l k) id) rfl)) ?_
    refine rg_done rfl ?_
    refine a_cond rfl (fun h3 => ?_) (fun h3 => ?_)
    · skip
      refine a_rseq ?_
      refine rg_put (d := 17) (v := .d (.fl (.int .i64 (k : Int)))) rfl (og rfl (op_move rfl rfl rfl)) ?_
      refine rg_put (d := 4) (v := .d (.fl (.int .i64 (k : Int)))) rfl (og rfl (op_assign rfl rfl rfl)) ?_
      refine rg_done rfl ?_
      refine a_ret ?_
      show ∃ ds, ResL _ _ _ ds ∧ RV.of ds = _
      refine ⟨[.fl (.int .i64 (k : Int))], (.cons (.tmp rfl (.d _)) .nil), ?_⟩
      have hu : pix l id = (k : Int) := idx_at (by omega) hq h3
      rw [hu]; rfl
    · skip
      refine a_skip ?_
      show A _ _ _ _ _ _ _
      refine a_region ?_
      refine rg_put (d := 18) (v := .d (.fl (.int .i64 (((k : Int) + 1))))) rfl (og rfl (op_bin rfl rfl rfl (fun x y w => b_add64 _ _ _ x y w (by omega)) rfl)) ?_
      refine rg_put (d := 8) (v := .d (.fl (.int .i64 (((k : Int) + 1))))) rfl (og rfl (op_move rfl rfl rfl)) ?_
      refine rg_done rfl ?_
      have hx : sEq (ix l k).id id = false := h3
      show ∃ i, _ ∧ _ ∧ Imp _ _ _ _ _
      refine ⟨k + 1, ⟨by omega, fun q h => (Nat.lt_succ_iff_lt_or_eq.1 h).elim (hq q) (fun e => by rw [e]; exact hx)⟩, by omega, imp_forget rfl ⟨rfl, rfl, rfl, (by first | rfl | exact ci (by omega) | exact ci (by simp) | exact cd (by simp) | simp), trivial⟩ trivial⟩
  · skip
    have h4 := f_dec h1
    refine a_exit ?_
    show A _ _ _ _ _ _ _
    refine a_rseq ?_
    refine rg_put (d := 4) (v := .d (.fl (.int .i64 (-1)))) rfl (og rfl (op_assign rfl rfl rfl)) ?_
    refine rg_done rfl ?_
    refine a_ret ?_
    show ∃ ds, ResL _ _ _ ds ∧ RV.of ds = _
    refine ⟨[.fl (.int .i64 (-1))], (.cons (.tmp rfl (.d _)) .nil), ?_⟩
    have hu : pix l id = -1 := idx_no (fun q h => hq q (by omega))
    rw [hu]; rfl
set_option maxHeartbeats 4000000 in
set_option maxRecDepth 100000 in
theorem con28 (l : List Pg) (id : ByteArray) (hl : l.length ≤ 9223372036854775807) : Ctr Tryd.prog 28 [.sl 8 (List.map ePg l), .fn 29 [.el [.fl (.string id)]]] (.d (.fl (.bool (l.any fun p => sEq p.id id)))) := by
  refine ctr (n := 9) (rs := #[.tmp 4]) (L := [(0, .d (.sl 8 (List.map ePg l))), (1, .d (.fn 29 [.el [.fl (.string id)]]))]) Tryd.func28 rfl rfl rfl rfl rfl (fun w0 U0 => ?_)
  refine a_rseq ?_
  refine rg_put (d := 4) (v := .d (.fl (.bool false))) rfl (og rfl (op_assign rfl rfl rfl)) ?_
  refine rg_done rfl ?_
  refine a_rseq ?_
  refine rg_put (d := 5) (v := .d (.sl 8 (List.map ePg l))) rfl (og rfl (op_move rfl rfl rfl)) ?_
  refine rg_put (d := 6) (v := .d (.fn 29 [.el [.fl (.string id)]])) rfl (og rfl (op_move rfl rfl rfl)) ?_
  refine rg_put (d := 7) (v := .d (.fl (.int .i64 ((idx (fun p : Pg => sEq p.id id) l))))) rfl (og rfl (op_call rfl Tryd.func61 nm61 rfl (.cons rfl (.d _) (.cons rfl (.d _) .nil)) (ix61a l id (by omega)) rfl)) ?_
  refine rg_put (d := 8) (v := .d (.fl (.bool ((decide (0 ≤ (idx (fun p : Pg => sEq p.id id) l))))))) rfl (og rfl (op_bin rfl rfl rfl (b_geq _ _ _ _) rfl)) ?_
  refine rg_put (d := 4) (v := .d (.fl (.bool ((decide (0 ≤ (idx (fun p : Pg => sEq p.id id) l))))))) rfl (og rfl (op_assign rfl rfl rfl)) ?_
  refine rg_done rfl ?_
  refine a_ret ?_
  show ∃ ds, ResL _ _ _ ds ∧ RV.of ds = _
  refine ⟨[.fl (.bool ((decide (0 ≤ (idx (fun p : Pg => sEq p.id id) l)))))], (.cons (.tmp rfl (.d _)) .nil), ?_⟩
  rw [idx_any]; rfl
set_option maxHeartbeats 4000000 in
set_option maxRecDepth 100000 in
theorem ix31a (l : List Cg) (id : ByteArray) (hl : l.length ≤ 9223372036854775807) : Ctr Tryd.prog 31 [.sl 7 (List.map eCg l), .fn 32 [.el [.fl (.string id)]]] (.d (.fl (.int .i64 (cix l id)))) := by
  refine ctr (n := 19) (rs := #[.tmp 4]) (L := [(0, .d (.sl 7 (List.map eCg l))), (1, .d (.fn 32 [.el [.fl (.string id)]]))]) Tryd.func31 rfl rfl rfl rfl rfl (fun w0 U0 => ?_)
  refine a_rseq ?_
  refine rg_put (d := 4) (v := .d (.fl (.int .i64 0))) rfl (og rfl (op_assign rfl rfl rfl)) ?_
  refine rg_done rfl ?_
  refine a_seq ?_
  refine a_rseq ?_
  refine rg_put (d := 6) (v := .d (.sl 7 (List.map eCg l))) rfl (og rfl (op_move rfl rfl rfl)) ?_
  refine rg_put (d := 7) (v := .d (.fl (.int .i64 (l.length : Int)))) rfl (og rfl (s_len rfl Tryd.underlying53 rfl rfl)) ?_
  refine rg_put (d := 8) (v := .d (.fl (.int .i64 0))) rfl (og rfl (op_move rfl rfl rfl)) ?_
  refine rg_done rfl ?_
  refine a_block ?_
  refine a_loop (ι := Nat) (fun k => SS [(0, .d (.sl 7 (List.map eCg l))), (1, .d (.fn 32 [.el [.fl (.string id)]])), (7, .d (.fl (.int .i64 (l.length : Int)))), (8, .d (.fl (.int .i64 (k : Int))))] []) (fun k => k ≤ l.length ∧ ∀ q, q < k → sEq (ix l q).key id = false) (fun k => l.length - k) 0 (⟨by omega, fun q h => by omega⟩) (imp_forget rfl ⟨rfl, rfl, rfl, (by first | rfl | exact ci (by omega) | exact ci (by simp) | exact cd (by simp) | simp), trivial⟩ trivial) (fun k hok => ?_)
  obtain ⟨hkk, hq⟩ := hok
  refine a_rseq ?_
  refine rg_put (d := 9) (v := .d (.fl (.bool ((decide ((k : Int) < (l.length : Int))))))) rfl (og rfl (op_bin rfl rfl rfl (b_lss _ _ _ _) rfl)) ?_
  refine rg_done rfl ?_
  refine a_seq ?_
  refine a_cond rfl (fun h1 => ?_) (fun h1 => ?_)
  · skip
    have h2 := t_dec h1
    refine a_skip ?_
    show A _ _ _ _ _ _ _
    refine a_seq ?_
    refine a_block ?_
    refine a_rseq ?_
    refine rg_put (d := 10) (v := .d (.fl (.int .i64 (k : Int)))) rfl (og rfl (op_move rfl rfl rfl)) ?_
    refine rg_put (d := 5) (v := .d (.fl (.int .i64 (k : Int)))) rfl (og rfl (op_assign rfl rfl rfl)) ?_
    refine rg_done rfl ?_
    refine a_rseq ?_
    refine rg_put (d := 11) (v := .d (.fn 32 [.el [.fl (.string id)]])) rfl (og rfl (op_move rfl rfl rfl)) ?_
    refine rg_put (d := 12) (v := .d (.sl 7 (List.map eCg l))) rfl (og rfl (op_move rfl rfl rfl)) ?_
    refine rg_put (d := 13) (v := .d (.fl (.int .i64 (k : Int)))) rfl (og rfl (op_move rfl rfl rfl)) ?_
    refine rg_put (d := 14) (v := .el ((eCg (ix l k)))) rfl (og rfl (s_index rfl Tryd.underlying53 ti93 rfl rfl (by omega) (row_at (by omega)) rfl)) ?_
    refine rg_put (d := 15) (v := .d (.ag (eCg (ix l k)))) rfl (og rfl (of_eff (s_load_els rfl Tryd.underlying93 rfl ti93 rfl rfl rfl) rfl)) ?_
    refine rg_put (d := 16) (v := .d (.fl (.bool ((sEq (ix l k).key id))))) rfl (og rfl (op_callV rfl rfl ⟨_, Tryd.func32, nm32, rfl⟩ (.cons rfl (.d _) .nil) (cl32 (ix l k) id) rfl)) ?_
    refine rg_done rfl ?_
    refine a_cond rfl (fun h3 => ?_) (fun h3 => ?_)
    · skip
      refine a_rseq ?_
      refine rg_put (d := 17) (v := .d (.fl (.int .i64 (k : Int)))) rfl (og rfl (op_move rfl rfl rfl)) ?_
      refine rg_put (d := 4) (v := .d (.fl (.int .i64 (k : Int)))) rfl (og rfl (op_assign rfl rfl rfl)) ?_
      refine rg_done rfl ?_
      refine a_ret ?_
      show ∃ ds, ResL _ _ _ ds ∧ RV.of ds = _
      refine ⟨[.fl (.int .i64 (k : Int))], (.cons (.tmp rfl (.d _)) .nil), ?_⟩
      have hu : cix l id = (k : Int) := idx_at (by omega) hq h3
      rw [hu]; rfl
    · skip
      refine a_skip ?_
      show A _ _ _ _ _ _ _
      refine a_region ?_
      refine rg_put (d := 18) (v := .d (.fl (.int .i64 (((k : Int) + 1))))) rfl (og rfl (op_bin rfl rfl rfl (fun x y w => b_add64 _ _ _ x y w (by omega)) rfl)) ?_
      refine rg_put (d := 8) (v := .d (.fl (.int .i64 (((k : Int) + 1))))) rfl (og rfl (op_move rfl rfl rfl)) ?_
      refine rg_done rfl ?_
      have hx : sEq (ix l k).key id = false := h3
      show ∃ i, _ ∧ _ ∧ Imp _ _ _ _ _
      refine ⟨k + 1, ⟨by omega, fun q h => (Nat.lt_succ_iff_lt_or_eq.1 h).elim (hq q) (fun e => by rw [e]; exact hx)⟩, by omega, imp_forget rfl ⟨rfl, rfl, rfl, (by first | rfl | exact ci (by omega) | exact ci (by simp) | exact cd (by simp) | simp), trivial⟩ trivial⟩
  · skip
    have h4 := f_dec h1
    refine a_exit ?_
    show A _ _ _ _ _ _ _
    refine a_rseq ?_
    refine rg_put (d := 4) (v := .d (.fl (.int .i64 (-1)))) rfl (og rfl (op_assign rfl rfl rfl)) ?_
    refine rg_done rfl ?_
    refine a_ret ?_
    show ∃ ds, ResL _ _ _ ds ∧ RV.of ds = _
    refine ⟨[.fl (.int .i64 (-1))], (.cons (.tmp rfl (.d _)) .nil), ?_⟩
    have hu : cix l id = -1 := idx_no (fun q h => hq q (by omega))
    rw [hu]; rfl
set_option maxHeartbeats 4000000 in
set_option maxRecDepth 100000 in
theorem ix31b (l : List Cg) (id : ByteArray) (hl : l.length ≤ 9223372036854775807) : Ctr Tryd.prog 31 [.sl 7 (List.map eCg l), .fn 66 [.el [.fl (.string id)]]] (.d (.fl (.int .i64 (cix l id)))) := by
  refine ctr (n := 19) (rs := #[.tmp 4]) (L := [(0, .d (.sl 7 (List.map eCg l))), (1, .d (.fn 66 [.el [.fl (.string id)]]))]) Tryd.func31 rfl rfl rfl rfl rfl (fun w0 U0 => ?_)
  refine a_rseq ?_
  refine rg_put (d := 4) (v := .d (.fl (.int .i64 0))) rfl (og rfl (op_assign rfl rfl rfl)) ?_
  refine rg_done rfl ?_
  refine a_seq ?_
  refine a_rseq ?_
  refine rg_put (d := 6) (v := .d (.sl 7 (List.map eCg l))) rfl (og rfl (op_move rfl rfl rfl)) ?_
  refine rg_put (d := 7) (v := .d (.fl (.int .i64 (l.length : Int)))) rfl (og rfl (s_len rfl Tryd.underlying53 rfl rfl)) ?_
  refine rg_put (d := 8) (v := .d (.fl (.int .i64 0))) rfl (og rfl (op_move rfl rfl rfl)) ?_
  refine rg_done rfl ?_
  refine a_block ?_
  refine a_loop (ι := Nat) (fun k => SS [(0, .d (.sl 7 (List.map eCg l))), (1, .d (.fn 66 [.el [.fl (.string id)]])), (7, .d (.fl (.int .i64 (l.length : Int)))), (8, .d (.fl (.int .i64 (k : Int))))] []) (fun k => k ≤ l.length ∧ ∀ q, q < k → sEq (ix l q).key id = false) (fun k => l.length - k) 0 (⟨by omega, fun q h => by omega⟩) (imp_forget rfl ⟨rfl, rfl, rfl, (by first | rfl | exact ci (by omega) | exact ci (by simp) | exact cd (by simp) | simp), trivial⟩ trivial) (fun k hok => ?_)
  obtain ⟨hkk, hq⟩ := hok
  refine a_rseq ?_
  refine rg_put (d := 9) (v := .d (.fl (.bool ((decide ((k : Int) < (l.length : Int))))))) rfl (og rfl (op_bin rfl rfl rfl (b_lss _ _ _ _) rfl)) ?_
  refine rg_done rfl ?_
  refine a_seq ?_
  refine a_cond rfl (fun h1 => ?_) (fun h1 => ?_)
  · skip
    have h2 := t_dec h1
    refine a_skip ?_
    show A _ _ _ _ _ _ _
    refine a_seq ?_
    refine a_block ?_
    refine a_rseq ?_
    refine rg_put (d := 10) (v := .d (.fl (.int .i64 (k : Int)))) rfl (og rfl (op_move rfl rfl rfl)) ?_
    refine rg_put (d := 5) (v := .d (.fl (.int .i64 (k : Int)))) rfl (og rfl (op_assign rfl rfl rfl)) ?_
    refine rg_done rfl ?_
    refine a_rseq ?_
    refine rg_put (d := 11) (v := .d (.fn 66 [.el [.fl (.string id)]])) rfl (og rfl (op_move rfl rfl rfl)) ?_
    refine rg_put (d := 12) (v := .d (.sl 7 (List.map eCg l))) rfl (og rfl (op_move rfl rfl rfl)) ?_
    refine rg_put (d := 13) (v := .d (.fl (.int .i64 (k : Int)))) rfl (og rfl (op_move rfl rfl rfl)) ?_
    refine rg_put (d := 14) (v := .el ((eCg (ix l k)))) rfl (og rfl (s_index rfl Tryd.underlying53 ti93 rfl rfl (by omega) (row_at (by omega)) rfl)) ?_
    refine rg_put (d := 15) (v := .d (.ag (eCg (ix l k)))) rfl (og rfl (of_eff (s_load_els rfl Tryd.underlying93 rfl ti93 rfl rfl rfl) rfl)) ?_
    refine rg_put (d := 16) (v := .d (.fl (.bool ((sEq (ix l k).key id))))) rfl (og rfl (op_callV rfl rfl ⟨_, Tryd.func66, nm66, rfl⟩ (.cons rfl (.d _) .nil) (cl66 (ix l k) id) rfl)) ?_
    refine rg_done rfl ?_
    refine a_cond rfl (fun h3 => ?_) (fun h3 => ?_)
    · skip
      refine a_rseq ?_
      refine rg_put (d := 17) (v := .d (.fl (.int .i64 (k : Int)))) rfl (og rfl (op_move rfl rfl rfl)) ?_
      refine rg_put (d := 4) (v := .d (.fl (.int .i64 (k : Int)))) rfl (og rfl (op_assign rfl rfl rfl)) ?_
      refine rg_done rfl ?_
      refine a_ret ?_
      show ∃ ds, ResL _ _ _ ds ∧ RV.of ds = _
      refine ⟨[.fl (.int .i64 (k : Int))], (.cons (.tmp rfl (.d _)) .nil), ?_⟩
      have hu : cix l id = (k : Int) := idx_at (by omega) hq h3
      rw [hu]; rfl
    · skip
      refine a_skip ?_
      show A _ _ _ _ _ _ _
      refine a_region ?_
      refine rg_put (d := 18) (v := .d (.fl (.int .i64 (((k : Int) + 1))))) rfl (og rfl (op_bin rfl rfl rfl (fun x y w => b_add64 _ _ _ x y w (by omega)) rfl)) ?_
      refine rg_put (d := 8) (v := .d (.fl (.int .i64 (((k : Int) + 1))))) rfl (og rfl (op_move rfl rfl rfl)) ?_
      refine rg_done rfl ?_
      have hx : sEq (ix l k).key id = false := h3
      show ∃ i, _ ∧ _ ∧ Imp _ _ _ _ _
      refine ⟨k + 1, ⟨by omega, fun q h => (Nat.lt_succ_iff_lt_or_eq.1 h).elim (hq q) (fun e => by rw [e]; exact hx)⟩, by omega, imp_forget rfl ⟨rfl, rfl, rfl, (by first | rfl | exact ci (by omega) | exact ci (by simp) | exact cd (by simp) | simp), trivial⟩ trivial⟩
  · skip
    have h4 := f_dec h1
    refine a_exit ?_
    show A _ _ _ _ _ _ _
    refine a_rseq ?_
    refine rg_put (d := 4) (v := .d (.fl (.int .i64 (-1)))) rfl (og rfl (op_assign rfl rfl rfl)) ?_
    refine rg_done rfl ?_
    refine a_ret ?_
    show ∃ ds, ResL _ _ _ ds ∧ RV.of ds = _
    refine ⟨[.fl (.int .i64 (-1))], (.cons (.tmp rfl (.d _)) .nil), ?_⟩
    have hu : cix l id = -1 := idx_no (fun q h => hq q (by omega))
    rw [hu]; rfl
set_option maxHeartbeats 4000000 in
set_option maxRecDepth 100000 in
theorem con65 (l : List Cg) (id : ByteArray) (hl : l.length ≤ 9223372036854775807) : Ctr Tryd.prog 65 [.sl 7 (List.map eCg l), .fn 66 [.el [.fl (.string id)]]] (.d (.fl (.bool (hasK l id)))) := by
  refine ctr (n := 9) (rs := #[.tmp 4]) (L := [(0, .d (.sl 7 (List.map eCg l))), (1, .d (.fn 66 [.el [.fl (.string id)]]))]) Tryd.func65 rfl rfl rfl rfl rfl (fun w0 U0 => ?_)
  refine a_rseq ?_
  refine rg_put (d := 4) (v := .d (.fl (.bool false))) rfl (og rfl (op_assign rfl rfl rfl)) ?_
  refine rg_done rfl ?_
  refine a_rseq ?_
  refine rg_put (d := 5) (v := .d (.sl 7 (List.map eCg l))) rfl (og rfl (op_move rfl rfl rfl)) ?_
  refine rg_put (d := 6) (v := .d (.fn 66 [.el [.fl (.string id)]])) rfl (og rfl (op_move rfl rfl rfl)) ?_
  refine rg_put (d := 7) (v := .d (.fl (.int .i64 ((idx (fun x : Cg => sEq x.key id) l))))) rfl (og rfl (op_call rfl Tryd.func31 nm31 rfl (.cons rfl (.d _) (.cons rfl (.d _) .nil)) (ix31b l id (by omega)) rfl)) ?_
  refine rg_put (d := 8) (v := .d (.fl (.bool ((decide (0 ≤ (idx (fun x : Cg => sEq x.key id) l))))))) rfl (og rfl (op_bin rfl rfl rfl (b_geq _ _ _ _) rfl)) ?_
  refine rg_put (d := 4) (v := .d (.fl (.bool ((decide (0 ≤ (idx (fun x : Cg => sEq x.key id) l))))))) rfl (og rfl (op_assign rfl rfl rfl)) ?_
  refine rg_done rfl ?_
  refine a_ret ?_
  show ∃ ds, ResL _ _ _ ds ∧ RV.of ds = _
  refine ⟨[.fl (.bool ((decide (0 ≤ (idx (fun x : Cg => sEq x.key id) l)))))], (.cons (.tmp rfl (.d _)) .nil), ?_⟩
  rw [idx_any]; rfl
set_option maxHeartbeats 4000000 in
set_option maxRecDepth 100000 in
theorem hasK40 (l : List Cg) (id : ByteArray) (hl : l.length ≤ 9223372036854775807) : Ctr Tryd.prog 40 [.sl 7 (List.map eCg l), .fl (.string id)] (.d (.fl (.bool (hasK l id)))) := by
  refine ctr (n := 8) (rs := #[.tmp 4]) (L := [(0, .d (.sl 7 (List.map eCg l))), (1, .d (.fl (.string id)))]) Tryd.func40 rfl rfl rfl rfl rfl (fun w0 U0 => ?_)
  refine a_rseq ?_
  refine rg_nam (d := 3) (v := .pt 101 0) (m := 101) (nw := [(101, .bx 9 [.fl (.string id)])]) rfl (og rfl (of_eff (op_box 101 rfl rfl rfl rfl) rfl)) rfl ?_
  refine rg_put (d := 4) (v := .d (.fl (.bool false))) rfl (og rfl (op_assign rfl rfl rfl)) ?_
  refine rg_done rfl ?_
  refine a_rseq ?_
  refine rg_imp (imp_freeze 3 101 rfl rfl) ?_
  refine rg_put (d := 5) (v := .d (.sl 7 (List.map eCg l))) rfl (og rfl (op_move rfl rfl rfl)) ?_
  refine rg_put (d := 6) (v := .d (.fn 66 [.el [.fl (.string id)]])) rfl (og rfl (op_mkfn rfl (.cons rfl .nil) rfl)) ?_
  refine rg_put (d := 7) (v := .d (.fl (.bool (hasK l id)))) rfl (og rfl (op_call rfl Tryd.func65 nm65 rfl (.cons rfl (.d _) (.cons rfl (.d _) .nil)) (con65 l id (by omega)) rfl)) ?_
  refine rg_put (d := 4) (v := .d (.fl (.bool (hasK l id)))) rfl (og rfl (op_assign rfl rfl rfl)) ?_
  refine rg_done rfl ?_
  refine a_ret ?_
  show ∃ ds, ResL _ _ _ ds ∧ RV.of ds = _
  refine ⟨[.fl (.bool (hasK l id))], (.cons (.tmp rfl (.d _)) .nil), ?_⟩
  rfl
set_option maxHeartbeats 4000000 in
set_option maxRecDepth 100000 in
theorem pix30 (l : List Pg) (id : ByteArray) (hl : l.length ≤ 9223372036854775807) : Ctr Tryd.prog 30 [.sl 8 (List.map ePg l), .fl (.string id)] (.d (.fl (.int .i64 (pix l id)))) := by
  refine ctr (n := 20) (rs := #[.tmp 4]) (L := [(0, .d (.sl 8 (List.map ePg l))), (1, .d (.fl (.string id)))]) Tryd.func30 rfl rfl rfl rfl rfl (fun w0 U0 => ?_)
  refine a_rseq ?_
  refine rg_put (d := 4) (v := .d (.fl (.int .i64 0))) rfl (og rfl (op_assign rfl rfl rfl)) ?_
  refine rg_done rfl ?_
  refine a_seq ?_
  refine a_rseq ?_
  refine rg_put (d := 5) (v := .d (.fl (.int .i64 0))) rfl (og rfl (op_assign rfl rfl rfl)) ?_
  refine rg_done rfl ?_
  refine a_block ?_
  refine a_loop (ι := Nat) (fun k => SS [(0, .d (.sl 8 (List.map ePg l))), (1, .d (.fl (.string id))), (5, .d (.fl (.int .i64 (k : Int))))] []) (fun k => k ≤ l.length ∧ ∀ q, q < k → sEq (ix l q).id id = false) (fun k => l.length - k) 0 (⟨by omega, fun q h => by omega⟩) (imp_forget rfl ⟨rfl, rfl, (by first | rfl | exact ci (by omega) | exact ci (by simp) | exact cd (by simp) | simp), trivial⟩ trivial) (fun k hok => ?_)
  obtain ⟨hkk, hq⟩ := hok
  refine a_seq ?_
  refine a_rseq ?_
  refine rg_put (d := 6) (v := .d (.fl (.int .i64 (k : Int)))) rfl (og rfl (op_move rfl rfl rfl)) ?_
  refine rg_put (d := 7) (v := .d (.sl 8 (List.map ePg l))) rfl (og rfl (op_move rfl rfl rfl)) ?_
  refine rg_put (d := 8) (v := .d (.fl (.int .i64 (l.length : Int)))) rfl (og rfl (s_len rfl Tryd.underlying50 rfl rfl)) ?_
  refine rg_put (d := 9) (v := .d (.fl (.bool ((decide ((k : Int) < (l.length : Int))))))) rfl (og rfl (op_bin rfl rfl rfl (b_lss _ _ _ _) rfl)) ?_
  refine rg_done rfl ?_
  refine a_cond rfl (fun h1 => ?_) (fun h1 => ?_)
  · skip
    have h2 := t_dec h1
    refine a_skip ?_
    show A _ _ _ _ _ _ _
    refine a_seq ?_
    refine a_block ?_
    refine a_rseq ?_
    refine rg_put (d := 12) (v := .d (.sl 8 (List.map ePg l))) rfl (og rfl (op_move rfl rfl rfl)) ?_
    refine rg_put (d := 13) (v := .d (.fl (.int .i64 (k : Int)))) rfl (og rfl (op_move rfl rfl rfl)) ?_
    refine rg_put (d := 14) (v := .el ((ePg (ix l k)))) rfl (og rfl (s_index rfl Tryd.underlying50 ti87 rfl rfl (by omega) (row_at (by omega)) rfl)) ?_
    refine rg_put (d := 15) (v := .el ((List.drop 0 ((ePg (ix l k)))))) rfl (og rfl (of_eff (s_field_el rfl Tryd.underlying87 rfl ti9 rfl rfl rfl) rfl)) ?_
    refine rg_put (d := 16) (v := .d (.fl (.string ((ix l k).id)))) rfl (og rfl (op_load_el rfl Tryd.underlying9 rfl rfl rfl rfl)) ?_
    refine rg_put (d := 17) (v := .d (.fl (.string id))) rfl (og rfl (op_move rfl rfl rfl)) ?_
    refine rg_put (d := 18) (v := .d (.fl (.bool ((sEq ((ix l k).id) id))))) rfl (og rfl (op_bin rfl rfl rfl (b_seq _ _ _) rfl)) ?_
    refine rg_done rfl ?_
    refine a_cond rfl (fun h3 => ?_) (fun h3 => ?_)
    · skip
      refine a_rseq ?_
      refine rg_put (d := 19) (v := .d (.fl (.int .i64 (k : Int)))) rfl (og rfl (op_move rfl rfl rfl)) ?_
      refine rg_put (d := 4) (v := .d (.fl (.int .i64 (k : Int)))) rfl (og rfl (op_assign rfl rfl rfl)) ?_
      refine rg_done rfl ?_
      refine a_ret ?_
      show ∃ ds, ResL _ _ _ ds ∧ RV.of ds = _
      refine ⟨[.fl (.int .i64 (k : Int))], (.cons (.tmp rfl (.d _)) .nil), ?_⟩
      have hu : pix l id = (k : Int) := idx_at (by omega) hq h3
      rw [hu]; rfl
    · skip
      refine a_skip ?_
      show A _ _ _ _ _ _ _
      refine a_region ?_
      refine rg_put (d := 10) (v := .d (.fl (.int .i64 (k : Int)))) rfl (og rfl (op_move rfl rfl rfl)) ?_
      refine rg_put (d := 11) (v := .d (.fl (.int .i64 (((k : Int) + 1))))) rfl (og rfl (op_bin rfl rfl rfl (fun x y w => b_add64 _ _ _ x y w (by omega)) rfl)) ?_
      refine rg_put (d := 5) (v := .d (.fl (.int .i64 (((k : Int) + 1))))) rfl (og rfl (op_assign rfl rfl rfl)) ?_
      refine rg_done rfl ?_
      have hx : sEq (ix l k).id id = false := h3
      show ∃ i, _ ∧ _ ∧ Imp _ _ _ _ _
      refine ⟨k + 1, ⟨by omega, fun q h => (Nat.lt_succ_iff_lt_or_eq.1 h).elim (hq q) (fun e => by rw [e]; exact hx)⟩, by omega, imp_forget rfl ⟨rfl, rfl, (by first | rfl | exact ci (by omega) | exact ci (by simp) | exact cd (by simp) | simp), trivial⟩ trivial⟩
  · skip
    have h4 := f_dec h1
    refine a_exit ?_
    show A _ _ _ _ _ _ _
    refine a_rseq ?_
    refine rg_put (d := 4) (v := .d (.fl (.int .i64 (-1)))) rfl (og rfl (op_assign rfl rfl rfl)) ?_
    refine rg_done rfl ?_
    refine a_ret ?_
    show ∃ ds, ResL _ _ _ ds ∧ RV.of ds = _
    refine ⟨[.fl (.int .i64 (-1))], (.cons (.tmp rfl (.d _)) .nil), ?_⟩
    have hu : pix l id = -1 := idx_no (fun q h => hq q (by omega))
    rw [hu]; rfl
set_option maxHeartbeats 4000000 in
set_option maxRecDepth 100000 in
theorem cix41 (l : List Cg) (id : ByteArray) (hl : l.length ≤ 9223372036854775807) : Ctr Tryd.prog 41 [.sl 7 (List.map eCg l), .fl (.string id)] (.d (.fl (.int .i64 (cix l id)))) := by
  refine ctr (n := 20) (rs := #[.tmp 4]) (L := [(0, .d (.sl 7 (List.map eCg l))), (1, .d (.fl (.string id)))]) Tryd.func41 rfl rfl rfl rfl rfl (fun w0 U0 => ?_)
  refine a_rseq ?_
  refine rg_put (d := 4) (v := .d (.fl (.int .i64 0))) rfl (og rfl (op_assign rfl rfl rfl)) ?_
  refine rg_done rfl ?_
  refine a_seq ?_
  refine a_rseq ?_
  refine rg_put (d := 5) (v := .d (.fl (.int .i64 0))) rfl (og rfl (op_assign rfl rfl rfl)) ?_
  refine rg_done rfl ?_
  refine a_block ?_
  refine a_loop (ι := Nat) (fun k => SS [(0, .d (.sl 7 (List.map eCg l))), (1, .d (.fl (.string id))), (5, .d (.fl (.int .i64 (k : Int))))] []) (fun k => k ≤ l.length ∧ ∀ q, q < k → sEq (ix l q).key id = false) (fun k => l.length - k) 0 (⟨by omega, fun q h => by omega⟩) (imp_forget rfl ⟨rfl, rfl, (by first | rfl | exact ci (by omega) | exact ci (by simp) | exact cd (by simp) | simp), trivial⟩ trivial) (fun k hok => ?_)
  obtain ⟨hkk, hq⟩ := hok
  refine a_seq ?_
  refine a_rseq ?_
  refine rg_put (d := 6) (v := .d (.fl (.int .i64 (k : Int)))) rfl (og rfl (op_move rfl rfl rfl)) ?_
  refine rg_put (d := 7) (v := .d (.sl 7 (List.map eCg l))) rfl (og rfl (op_move rfl rfl rfl)) ?_
  refine rg_put (d := 8) (v := .d (.fl (.int .i64 (l.length : Int)))) rfl (og rfl (s_len rfl Tryd.underlying53 rfl rfl)) ?_
  refine rg_put (d := 9) (v := .d (.fl (.bool ((decide ((k : Int) < (l.length : Int))))))) rfl (og rfl (op_bin rfl rfl rfl (b_lss _ _ _ _) rfl)) ?_
  refine rg_done rfl ?_
  refine a_cond rfl (fun h1 => ?_) (fun h1 => ?_)
  · skip
    have h2 := t_dec h1
    refine a_skip ?_
    show A _ _ _ _ _ _ _
    refine a_seq ?_
    refine a_block ?_
    refine a_rseq ?_
    refine rg_put (d := 12) (v := .d (.sl 7 (List.map eCg l))) rfl (og rfl (op_move rfl rfl rfl)) ?_
    refine rg_put (d := 13) (v := .d (.fl (.int .i64 (k : Int)))) rfl (og rfl (op_move rfl rfl rfl)) ?_
    refine rg_put (d := 14) (v := .el ((eCg (ix l k)))) rfl (og rfl (s_index rfl Tryd.underlying53 ti93 rfl rfl (by omega) (row_at (by omega)) rfl)) ?_
    refine rg_put (d := 15) (v := .el ((List.drop 0 ((eCg (ix l k)))))) rfl (og rfl (of_eff (s_field_el rfl Tryd.underlying93 rfl ti9 rfl rfl rfl) rfl)) ?_
    refine rg_put (d := 16) (v := .d (.fl (.string ((ix l k).key)))) rfl (og rfl (op_load_el rfl Tryd.underlying9 rfl rfl rfl rfl)) ?_
    refine rg_put (d := 17) (v := .d (.fl (.string id))) rfl (og rfl (op_move rfl rfl rfl)) ?_
    refine rg_put (d := 18) (v := .d (.fl (.bool ((sEq ((ix l k).key) id))))) rfl (og rfl (op_bin rfl rfl rfl (b_seq _ _ _) rfl)) ?_
    refine rg_done rfl ?_
    refine a_cond rfl (fun h3 => ?_) (fun h3 => ?_)
    · skip
      refine a_rseq ?_
      refine rg_put (d := 19) (v := .d (.fl (.int .i64 (k : Int)))) rfl (og rfl (op_move rfl rfl rfl)) ?_
      refine rg_put (d := 4) (v := .d (.fl (.int .i64 (k : Int)))) rfl (og rfl (op_assign rfl rfl rfl)) ?_
      refine rg_done rfl ?_
      refine a_ret ?_
      show ∃ ds, ResL _ _ _ ds ∧ RV.of ds = _
      refine ⟨[.fl (.int .i64 (k : Int))], (.cons (.tmp rfl (.d _)) .nil), ?_⟩
      have hu : cix l id = (k : Int) := idx_at (by omega) hq h3
      rw [hu]; rfl
    · skip
      refine a_skip ?_
      show A _ _ _ _ _ _ _
      refine a_region ?_
      refine rg_put (d := 10) (v := .d (.fl (.int .i64 (k : Int)))) rfl (og rfl (op_move rfl rfl rfl)) ?_
      refine rg_put (d := 11) (v := .d (.fl (.int .i64 (((k : Int) + 1))))) rfl (og rfl (op_bin rfl rfl rfl (fun x y w => b_add64 _ _ _ x y w (by omega)) rfl)) ?_
      refine rg_put (d := 5) (v := .d (.fl (.int .i64 (((k : Int) + 1))))) rfl (og rfl (op_assign rfl rfl rfl)) ?_
      refine rg_done rfl ?_
      have hx : sEq (ix l k).key id = false := h3
      show ∃ i, _ ∧ _ ∧ Imp _ _ _ _ _
      refine ⟨k + 1, ⟨by omega, fun q h => (Nat.lt_succ_iff_lt_or_eq.1 h).elim (hq q) (fun e => by rw [e]; exact hx)⟩, by omega, imp_forget rfl ⟨rfl, rfl, (by first | rfl | exact ci (by omega) | exact ci (by simp) | exact cd (by simp) | simp), trivial⟩ trivial⟩
  · skip
    have h4 := f_dec h1
    refine a_exit ?_
    show A _ _ _ _ _ _ _
    refine a_rseq ?_
    refine rg_put (d := 4) (v := .d (.fl (.int .i64 (-1)))) rfl (og rfl (op_assign rfl rfl rfl)) ?_
    refine rg_done rfl ?_
    refine a_ret ?_
    show ∃ ds, ResL _ _ _ ds ∧ RV.of ds = _
    refine ⟨[.fl (.int .i64 (-1))], (.cons (.tmp rfl (.d _)) .nil), ?_⟩
    have hu : cix l id = -1 := idx_no (fun q h => hq q (by omega))
    rw [hu]; rfl
set_option maxHeartbeats 4000000 in
set_option maxRecDepth 100000 in
theorem pas58 (t : Tp) (hl : t.stops.length ≤ 1000) : Ctr Tryd.prog 58 [.ag (eTp t)] (.d (.sl 1 (List.map rS (pas t)))) := by
  refine ctr (n := 23) (rs := #[.tmp 2]) (L := [(0, .d (.ag (eTp t)))]) Tryd.func58 rfl rfl rfl rfl rfl (fun w0 U0 => ?_)
  refine a_rseq ?_
  refine rg_nam (d := 1) (v := .pt 101 0) (m := 101) (nw := [(101, .bx 90 (eTp t))]) rfl (og rfl (of_eff (op_box 101 rfl rfl rfl rfl) rfl)) rfl ?_
  refine rg_put (d := 2) (v := .d (.fl (.slice none 0 0))) rfl (og rfl (op_assign rfl rfl rfl)) ?_
  refine rg_done rfl ?_
  refine a_rseq ?_
  refine rg_put (d := 3) (v := .d (.fl (.slice none 0 0))) rfl (og rfl (op_assign rfl rfl rfl)) ?_
  refine rg_done rfl ?_
  refine a_seq ?_
  refine a_rseq ?_
  refine rg_put (d := 6) (v := .pt 101 4) rfl (og rfl (of_eff (s_field_pt rfl Tryd.underlying90 rfl ti88 rfl rfl rfl) rfl)) ?_
  refine rg_put (d := 7) (v := .d (.sl 3 (List.map eSp t.stops))) rfl (og rfl (op_load_pt rfl Tryd.underlying88 rfl rfl rfl rfl rfl)) ?_
  refine rg_put (d := 8) (v := .d (.fl (.int .i64 (t.stops.length : Int)))) rfl (og rfl (s_len rfl Tryd.underlying88 rfl rfl)) ?_
  refine rg_put (d := 9) (v := .d (.fl (.int .i64 0))) rfl (og rfl (op_move rfl rfl rfl)) ?_
  refine rg_done rfl ?_
  refine a_block ?_
  refine a_loop (ι := Nat) (fun k => SS [(0, .d (.ag (eTp t))), (1, .pt 101 0), (2, .d (.fl (.slice none 0 0))), (7, .d (.sl 3 (List.map eSp t.stops))), (8, .d (.fl (.int .i64 (t.stops.length : Int)))), (9, .d (.fl (.int .i64 (k : Int)))), (3, .ow 50)] [(101, .bx 90 (eTp t)), (50, .tr 9 1 (tD rS (cat gP t.stops k)))]) (fun k => k ≤ t.stops.length) (fun k => t.stops.length - k) 0 (by omega) (Imp.trans (imp_nilT 3 50 9 1 rfl rfl) (imp_forget rfl ⟨rfl, rfl, rfl, rfl, rfl, (by first | rfl | exact ci (by omega) | exact ci (by simp) | exact cd (by simp) | simp), (by first | rfl | exact ci (by omega) | exact ci (by simp) | exact cd (by simp) | simp), trivial⟩ ⟨rfl, (by first | rfl | simp), trivial⟩)) (fun k hok => ?_)
  have hk := hok
  have hcl := cat_len (g := gP) (l := t.stops) (c := 1) (fun x _ => by unfold gP; split <;> simp) k hk
  refine a_rseq ?_
  refine rg_put (d := 10) (v := .d (.fl (.bool ((decide ((k : Int) < (t.stops.length : Int))))))) rfl (og rfl (op_bin rfl rfl rfl (b_lss _ _ _ _) rfl)) ?_
  refine rg_done rfl ?_
  refine a_seq ?_
  refine a_cond rfl (fun h1 => ?_) (fun h1 => ?_)
  · skip
    have h2 := t_dec h1
    refine a_skip ?_
    show A _ _ _ _ _ _ _
    refine a_seq ?_
    refine a_block ?_
    refine a_rseq ?_
    refine rg_put (d := 11) (v := .el ((eSp (ix t.stops k)))) rfl (og rfl (s_index rfl Tryd.underlying88 ti100 rfl rfl (by omega) (row_at (by omega)) rfl)) ?_
    refine rg_put (d := 12) (v := .d (.ag (eSp (ix t.stops k)))) rfl (og rfl (of_eff (s_load_els rfl Tryd.underlying100 rfl ti100 rfl rfl rfl) rfl)) ?_
    refine rg_nam (d := 5) (v := .pt 102 0) (m := 102) (nw := [(102, .bx 100 ([.fl (.string (⟨#[]⟩)), .fl (.int .i64 0), .fl (.string (⟨#[]⟩))]))]) rfl (og rfl (of_eff (s_alloc 102 rfl ti100 (by kernel_rfl) rfl) rfl)) rfl ?_
    refine rg_sto (nw := [(102, .bx 100 ((eSp (ix t.stops k))))]) rfl (og rfl (of_eff (s_store rfl rfl ti100 rfl rfl rfl rfl rfl rfl) rfl)) ?_
    refine rg_done rfl ?_
    refine a_rseq ?_
    refine rg_put (d := 13) (v := .pt 102 2) rfl (og rfl (of_eff (s_field_pt rfl Tryd.underlying100 rfl ti9 rfl rfl rfl) rfl)) ?_
    refine rg_put (d := 14) (v := .d (.fl (.string ((ix t.stops k).pass)))) rfl (og rfl (op_load_pt rfl Tryd.underlying9 rfl rfl rfl rfl rfl)) ?_
    refine rg_put (d := 15) (v := .d (.fl (.bool ((!(sEq ((ix t.stops k).pass) (⟨#[]⟩))))))) rfl (og rfl (op_bin rfl rfl rfl (b_sne _ _ _) rfl)) ?_
    refine rg_done rfl ?_
    refine a_cond rfl (fun h3 => ?_) (fun h3 => ?_)
    · skip
      have h4 := t_not h3
      refine a_region ?_
      refine rg_put (d := 16) (v := .ow 50) rfl (og rfl (op_move rfl rfl rfl)) ?_
      refine rg_put (d := 17) (v := .pt 102 2) rfl (og rfl (of_eff (s_field_pt rfl Tryd.underlying100 rfl ti9 rfl rfl rfl) rfl)) ?_
      refine rg_put (d := 18) (v := .d (.fl (.string ((ix t.stops k).pass)))) rfl (og rfl (op_load_pt rfl Tryd.underlying9 rfl rfl rfl rfl rfl)) ?_
      refine rg_put (d := 19) (v := .d (.sl 1 (List.map rS [(ix t.stops k).pass]))) rfl (og rfl (of_eff (op_slices rfl Tryd.underlying137 ti9 rfl rfl rfl (by kernel_rfl) (xs := [.fl (.string ((ix t.stops k).pass))]) rfl rfl (.cons rfl rfl (.d _) rfl rfl rfl .nil) rfl) rfl)) ?_
      refine rg_nam (d := 20) (v := .ow 103) (m := 103) (nw := [(103, .tr 9 1 (tD rS (((cat gP t.stops k) ++ [(ix t.stops k).pass])))), (50, .no)]) rfl (og rfl (of_eff (s_append_td 103 rfl Tryd.underlying137 ti9 rfl rfl rfl rfl rfl (.d _) (by simp only [List.length_cons, List.length_nil]; omega) rfl) rfl)) rfl ?_
      refine rg_put (d := 3) (v := .ow 103) rfl (og rfl (op_assign rfl rfl rfl)) ?_
      refine rg_done rfl ?_
      show A _ _ _ _ _ _ _
      refine a_region ?_
      refine rg_put (d := 21) (v := .d (.fl (.int .i64 (((k : Int) + 1))))) rfl (og rfl (op_bin rfl rfl rfl (fun x y w => b_add64 _ _ _ x y w (by omega)) rfl)) ?_
      refine rg_put (d := 9) (v := .d (.fl (.int .i64 (((k : Int) + 1))))) rfl (og rfl (op_move rfl rfl rfl)) ?_
      refine rg_done rfl ?_
      have hg : gP (ix t.stops k) = [(ix t.stops k).pass] := by unfold gP; rw [if_neg (by rw [h4]; decide)]
      show ∃ i, _ ∧ _ ∧ Imp _ _ _ _ _
      refine ⟨k + 1, (by omega), by omega, imp_ren (fun m => bif Nat.beq m 50 then 103 else m) rfl ⟨rfl, rfl, rfl, rfl, rfl, (by first | rfl | exact ci (by omega) | exact ci (by simp) | exact cd (by simp) | simp), rfl, trivial⟩ ⟨rfl, (congrArg (fun z => Ob.tr 9 1 (tD rS z)) (cat_eq0 hg (by first | rfl | simp))), trivial⟩⟩
    · skip
      have h5 := f_not h3
      refine a_skip ?_
      show A _ _ _ _ _ _ _
      refine a_region ?_
      refine rg_put (d := 21) (v := .d (.fl (.int .i64 (((k : Int) + 1))))) rfl (og rfl (op_bin rfl rfl rfl (fun x y w => b_add64 _ _ _ x y w (by omega)) rfl)) ?_
      refine rg_put (d := 9) (v := .d (.fl (.int .i64 (((k : Int) + 1))))) rfl (og rfl (op_move rfl rfl rfl)) ?_
      refine rg_done rfl ?_
      have hg : gP (ix t.stops k) = [] := by unfold gP; rw [if_pos h5]
      show ∃ i, _ ∧ _ ∧ Imp _ _ _ _ _
      refine ⟨k + 1, (by omega), by omega, imp_forget rfl ⟨rfl, rfl, rfl, rfl, rfl, (by first | rfl | exact ci (by omega) | exact ci (by simp) | exact cd (by simp) | simp), rfl, trivial⟩ ⟨rfl, (congrArg (fun z => Ob.tr 9 1 (tD rS z)) (cat_eq0 hg (by first | rfl | simp))), trivial⟩⟩
  · skip
    have h6 := f_dec h1
    refine a_exit ?_
    show A _ _ _ _ _ _ _
    refine a_rseq ?_
    refine rg_put (d := 22) (v := .ow 50) rfl (og rfl (op_move rfl rfl rfl)) ?_
    refine rg_put (d := 2) (v := .ow 50) rfl (og rfl (op_assign rfl rfl rfl)) ?_
    refine rg_done rfl ?_
    refine a_imp (imp_leakT 2 50 rfl rfl) ?_
    refine a_ret ?_
    show ∃ ds, ResL _ _ _ ds ∧ RV.of ds = _
    refine ⟨[.sl 1 (List.map rS (cat gP t.stops k))], (.cons (.tmp rfl (.d _)) .nil), ?_⟩
    have hkl : k = t.stops.length := by omega
    subst hkl
    rfl
set_option maxHeartbeats 4000000 in
set_option maxRecDepth 100000 in
theorem pas76 (t : Tp) (hl : t.stops.length ≤ 1000) : Ctr Tryd.prog 76 [.ag (eTp t)] (.d (.sl 1 (List.map rS (pas t)))) := by
  refine ctr (n := 30) (rs := #[.tmp 2]) (L := [(0, .d (.ag (eTp t)))]) Tryd.func76 rfl rfl rfl rfl rfl (fun w0 U0 => ?_)
  refine a_rseq ?_
  refine rg_nam (d := 1) (v := .pt 101 0) (m := 101) (nw := [(101, .bx 90 (eTp t))]) rfl (og rfl (of_eff (op_box 101 rfl rfl rfl rfl) rfl)) rfl ?_
  refine rg_put (d := 2) (v := .d (.fl (.slice none 0 0))) rfl (og rfl (op_assign rfl rfl rfl)) ?_
  refine rg_done rfl ?_
  refine a_rseq ?_
  refine rg_nam (d := 5) (v := .ow 102) (m := 102) (nw := [(102, .tr 9 1 (tD rS []))]) rfl (og rfl (of_eff (op_slice0 102 rfl Tryd.underlying137 ti9 rfl) rfl)) rfl ?_
  refine rg_put (d := 3) (v := .ow 102) rfl (og rfl (op_assign rfl rfl rfl)) ?_
  refine rg_done rfl ?_
  refine a_seq ?_
  refine a_rseq ?_
  refine rg_put (d := 4) (v := .d (.fl (.int .i64 0))) rfl (og rfl (op_assign rfl rfl rfl)) ?_
  refine rg_done rfl ?_
  refine a_block ?_
  refine a_loop (ι := Nat) (fun k => SS [(0, .d (.ag (eTp t))), (1, .pt 101 0), (2, .d (.fl (.slice none 0 0))), (4, .d (.fl (.int .i64 (k : Int)))), (3, .ow 102)] [(101, .bx 90 (eTp t)), (102, .tr 9 1 (tD rS (cat gP t.stops k)))]) (fun k => k ≤ t.stops.length) (fun k => t.stops.length - k) 0 (by omega) (imp_forget rfl ⟨rfl, rfl, rfl, (by first | rfl | exact ci (by omega) | exact ci (by simp) | exact cd (by simp) | simp), (by first | rfl | exact ci (by omega) | exact ci (by simp) | exact cd (by simp) | simp), trivial⟩ ⟨rfl, (by first | rfl | simp), trivial⟩) (fun k hok => ?_)
  have hk := hok
  have hcl := cat_len (g := gP) (l := t.stops) (c := 1) (fun x _ => by unfold gP; split <;> simp) k hk
  refine a_seq ?_
  refine a_rseq ?_
  refine rg_put (d := 6) (v := .d (.fl (.int .i64 (k : Int)))) rfl (og rfl (op_move rfl rfl rfl)) ?_
  refine rg_put (d := 7) (v := .pt 101 4) rfl (og rfl (of_eff (s_field_pt rfl Tryd.underlying90 rfl ti88 rfl rfl rfl) rfl)) ?_
  refine rg_put (d := 8) (v := .d (.sl 3 (List.map eSp t.stops))) rfl (og rfl (op_load_pt rfl Tryd.underlying88 rfl rfl rfl rfl rfl)) ?_
  refine rg_put (d := 9) (v := .d (.fl (.int .i64 (t.stops.length : Int)))) rfl (og rfl (s_len rfl Tryd.underlying88 rfl rfl)) ?_
  refine rg_put (d := 10) (v := .d (.fl (.bool ((decide ((k : Int) < (t.stops.length : Int))))))) rfl (og rfl (op_bin rfl rfl rfl (b_lss _ _ _ _) rfl)) ?_
  refine rg_done rfl ?_
  refine a_cond rfl (fun h1 => ?_) (fun h1 => ?_)
  · skip
    have h2 := t_dec h1
    refine a_skip ?_
    show A _ _ _ _ _ _ _
    refine a_seq ?_
    refine a_block ?_
    refine a_rseq ?_
    refine rg_put (d := 13) (v := .pt 101 4) rfl (og rfl (of_eff (s_field_pt rfl Tryd.underlying90 rfl ti88 rfl rfl rfl) rfl)) ?_
    refine rg_put (d := 14) (v := .d (.sl 3 (List.map eSp t.stops))) rfl (og rfl (op_load_pt rfl Tryd.underlying88 rfl rfl rfl rfl rfl)) ?_
    refine rg_put (d := 15) (v := .d (.fl (.int .i64 (k : Int)))) rfl (og rfl (op_move rfl rfl rfl)) ?_
    refine rg_put (d := 16) (v := .el ((eSp (ix t.stops k)))) rfl (og rfl (s_index rfl Tryd.underlying88 ti100 rfl rfl (by omega) (row_at (by omega)) rfl)) ?_
    refine rg_put (d := 17) (v := .el ((List.drop 2 ((eSp (ix t.stops k)))))) rfl (og rfl (of_eff (s_field_el rfl Tryd.underlying100 rfl ti9 rfl rfl rfl) rfl)) ?_
    refine rg_put (d := 18) (v := .d (.fl (.string ((ix t.stops k).pass)))) rfl (og rfl (op_load_el rfl Tryd.underlying9 rfl rfl rfl rfl)) ?_
    refine rg_put (d := 19) (v := .d (.fl (.bool ((!(sEq ((ix t.stops k).pass) (⟨#[]⟩))))))) rfl (og rfl (op_bin rfl rfl rfl (b_sne _ _ _) rfl)) ?_
    refine rg_done rfl ?_
    refine a_cond rfl (fun h3 => ?_) (fun h3 => ?_)
    · skip
      have h4 := t_not h3
      refine a_region ?_
      refine rg_put (d := 20) (v := .ow 102) rfl (og rfl (op_move rfl rfl rfl)) ?_
      refine rg_put (d := 21) (v := .pt 101 4) rfl (og rfl (of_eff (s_field_pt rfl Tryd.underlying90 rfl ti88 rfl rfl rfl) rfl)) ?_
      refine rg_put (d := 22) (v := .d (.sl 3 (List.map eSp t.stops))) rfl (og rfl (op_load_pt rfl Tryd.underlying88 rfl rfl rfl rfl rfl)) ?_
      refine rg_put (d := 23) (v := .d (.fl (.int .i64 (k : Int)))) rfl (og rfl (op_move rfl rfl rfl)) ?_
      refine rg_put (d := 24) (v := .el ((eSp (ix t.stops k)))) rfl (og rfl (s_index rfl Tryd.underlying88 ti100 rfl rfl (by omega) (row_at (by omega)) rfl)) ?_
      refine rg_put (d := 25) (v := .el ((List.drop 2 ((eSp (ix t.stops k)))))) rfl (og rfl (of_eff (s_field_el rfl Tryd.underlying100 rfl ti9 rfl rfl rfl) rfl)) ?_
      refine rg_put (d := 26) (v := .d (.fl (.string ((ix t.stops k).pass)))) rfl (og rfl (op_load_el rfl Tryd.underlying9 rfl rfl rfl rfl)) ?_
      refine rg_put (d := 27) (v := .d (.sl 1 (List.map rS [(ix t.stops k).pass]))) rfl (og rfl (of_eff (op_slices rfl Tryd.underlying137 ti9 rfl rfl rfl (by kernel_rfl) (xs := [.fl (.string ((ix t.stops k).pass))]) rfl rfl (.cons rfl rfl (.d _) rfl rfl rfl .nil) rfl) rfl)) ?_
      refine rg_nam (d := 28) (v := .ow 103) (m := 103) (nw := [(103, .tr 9 1 (tD rS (((cat gP t.stops k) ++ [(ix t.stops k).pass])))), (102, .no)]) rfl (og rfl (of_eff (s_append_td 103 rfl Tryd.underlying137 ti9 rfl rfl rfl rfl rfl (.d _) (by simp only [List.length_cons, List.length_nil]; omega) rfl) rfl)) rfl ?_
      refine rg_put (d := 3) (v := .ow 103) rfl (og rfl (op_assign rfl rfl rfl)) ?_
      refine rg_done rfl ?_
      show A _ _ _ _ _ _ _
      refine a_region ?_
      refine rg_put (d := 11) (v := .d (.fl (.int .i64 (k : Int)))) rfl (og rfl (op_move rfl rfl rfl)) ?_
      refine rg_put (d := 12) (v := .d (.fl (.int .i64 (((k : Int) + 1))))) rfl (og rfl (op_bin rfl rfl rfl (fun x y w => b_add64 _ _ _ x y w (by omega)) rfl)) ?_
      refine rg_put (d := 4) (v := .d (.fl (.int .i64 (((k : Int) + 1))))) rfl (og rfl (op_assign rfl rfl rfl)) ?_
      refine rg_done rfl ?_
      have hg : gP (ix t.stops k) = [(ix t.stops k).pass] := by unfold gP; rw [if_neg (by rw [h4]; decide)]
      show ∃ i, _ ∧ _ ∧ Imp _ _ _ _ _
      refine ⟨k + 1, (by omega), by omega, imp_ren (fun m => bif Nat.beq m 102 then 103 else m) rfl ⟨rfl, rfl, rfl, (by first | rfl | exact ci (by omega) | exact ci (by simp) | exact cd (by simp) | simp), rfl, trivial⟩ ⟨rfl, (congrArg (fun z => Ob.tr 9 1 (tD rS z)) (cat_eq0 hg (by first | rfl | simp))), trivial⟩⟩
    · skip
      have h5 := f_not h3
      refine a_skip ?_
      show A _ _ _ _ _ _ _
      refine a_region ?_
      refine rg_put (d := 11) (v := .d (.fl (.int .i64 (k : Int)))) rfl (og rfl (op_move rfl rfl rfl)) ?_
      refine rg_put (d := 12) (v := .d (.fl (.int .i64 (((k : Int) + 1))))) rfl (og rfl (op_bin rfl rfl rfl (fun x y w => b_add64 _ _ _ x y w (by omega)) rfl)) ?_
      refine rg_put (d := 4) (v := .d (.fl (.int .i64 (((k : Int) + 1))))) rfl (og rfl (op_assign rfl rfl rfl)) ?_
      refine rg_done rfl ?_
      have hg : gP (ix t.stops k) = [] := by unfold gP; rw [if_pos h5]
      show ∃ i, _ ∧ _ ∧ Imp _ _ _ _ _
      refine ⟨k + 1, (by omega), by omega, imp_forget rfl ⟨rfl, rfl, rfl, (by first | rfl | exact ci (by omega) | exact ci (by simp) | exact cd (by simp) | simp), rfl, trivial⟩ ⟨rfl, (congrArg (fun z => Ob.tr 9 1 (tD rS z)) (cat_eq0 hg (by first | rfl | simp))), trivial⟩⟩
  · skip
    have h6 := f_dec h1
    refine a_exit ?_
    show A _ _ _ _ _ _ _
    refine a_rseq ?_
    refine rg_put (d := 29) (v := .ow 102) rfl (og rfl (op_move rfl rfl rfl)) ?_
    refine rg_put (d := 2) (v := .ow 102) rfl (og rfl (op_assign rfl rfl rfl)) ?_
    refine rg_done rfl ?_
    refine a_imp (imp_leakT 2 102 rfl rfl) ?_
    refine a_ret ?_
    show ∃ ds, ResL _ _ _ ds ∧ RV.of ds = _
    refine ⟨[.sl 1 (List.map rS (cat gP t.stops k))], (.cons (.tmp rfl (.d _)) .nil), ?_⟩
    have hkl : k = t.stops.length := by omega
    subst hkl
    rfl
end Go.Proofs.YtgfbgkoifcacdaaDoor.Wk
