/- An evaluator for code whose data are all known. Conditions: as each theorem names them. -/
import Derived.WalkKit
import Derived.Below
import Derived.Orders
import Derived.Laws.AppendOwn
import Derived.Laws.Entries
import Derived.Laws.Cells
import Derived.Laws.Rows
import Derived.Laws.Tables
import Derived.Laws.IdiomCopy
import Derived.OrdersIn
import Derived.RangeFuncRecord
set_option linter.unusedSimpArgs false
set_option linter.unusedVariables false
namespace Go.Proofs.Ytobgdemhadlgnaa.Ev
open Go Go.RowKit
/-- a value with named blocks -/
inductive XV where
  | v (x : Value)
  | p (m o : Nat)
  | s (m o n : Nat) (c : Option Nat) (z : Nat)
  | e
  | mr (m : Nat)
  | f (g : FuncId) (cs : List XV)
  | a (cs : List XV)
  | t (cs : List XV)
  | i (t : TypeId) (x : XV)
  | q
  | y (m : Nat)
  | h (g : FuncId) (fs cs : List XV)
/-- what lies in a named block -/
inductive XO where
  | no
  | dead
  | c (cs : List XV) (ty : TypeId) (opn : Bool)
  | mp (es : List (Value × XV × Nat)) (ck : Nat)
  | si (s : ByteArray) (p : Nat)
  | mi (q : Option Nat) (since : Nat) (seen : Array Nat) (st : Nat)
  | df
  | lp (L : List (Nat × XV)) (N : Nat) (ps : Array Nat) (assign body : Code) (st : LoopState) (pend : Nat)
def XO.live : XO → Bool
  | .no => false
  | .dead => false
  | _ => true
mutual
def Rx (β : Nat → Option (Nat × Nat)) : XV → Value → Prop
  | .v x, u => u = x
  | .p m o, u => ∃ b, β m = some b ∧ u = .pointer (some ⟨b.1, o, none⟩)
  | .s m o n c z, u => ∃ b k, β m = some b ∧ u = .slice (some ⟨b.1, o, none⟩) n k ∧ n ≤ k ∧ (∀ c', c = some c' → k = c') ∧ (c = none → o + k * z = b.2)
  | .e, u => ∃ A k, u = .slice A 0 k
  | .mr m, u => ∃ b, β m = some b ∧ u = .map (some b.1)
  | .f g cs, u => ∃ vs : List Value, u = .func (.func g) #[] vs.toArray ∧ Rxs β cs vs
  | .a cs, u => ∃ vs : List Value, u = .agg vs.toArray ∧ Rxs β cs vs
  | .t cs, u => ∃ vs : List Value, u = .tuple vs.toArray ∧ Rxs β cs vs
  | .i t x, u => ∃ y, u = .iface t y ∧ Rx β x y
  | .q, u => ∃ j : Int, 1 ≤ j ∧ u = .int .i64 j
  | .y m, u => ∃ b, β m = some b ∧ u = .func (.yield b.1) #[] #[]
  | .h g fs cs, u => ∃ ws vs : List Value, u = .func (.func g) ws.toArray vs.toArray ∧ Rxs β fs ws ∧ Rxs β cs vs
def Rxs (β : Nat → Option (Nat × Nat)) : List XV → List Value → Prop
  | [], vs => vs = []
  | c :: cs, vs => ∃ v us, vs = v :: us ∧ Rx β c v ∧ Rxs β cs us
end
mutual
/-- every name that a value mentions is so -/
def XV.all (p : Nat → Bool) : XV → Bool
  | .v _ => true
  | .p m _ => p m
  | .s m _ _ _ _ => p m
  | .e => true
  | .mr m => p m
  | .f _ cs => XV.alls p cs
  | .a cs => XV.alls p cs
  | .t cs => XV.alls p cs
  | .i _ x => XV.all p x
  | .q => true
  | .y m => p m
  | .h _ fs cs => XV.alls p fs && XV.alls p cs
def XV.alls (p : Nat → Bool) : List XV → Bool
  | [] => true
  | c :: cs => XV.all p c && XV.alls p cs
end
mutual
theorem Rx.sub {β β' : Nat → Option (Nat × Nat)} {p : Nat → Bool} (h : ∀ m b, p m = true → β m = some b → β' m = some b) : ∀ {x : XV} {u : Value}, x.all p = true → Rx β x u → Rx β' x u
  | .v x, u, _, hr => by unfold Rx at hr ⊢; exact hr
  | .p m o, u, ha, hr => by
    unfold Rx at hr ⊢; unfold XV.all at ha
    obtain ⟨b, h1, h2⟩ := hr
    exact ⟨b, h m b ha h1, h2⟩
  | .s m o n c z, u, ha, hr => by
    unfold Rx at hr ⊢; unfold XV.all at ha
    obtain ⟨b, k, h1, h2⟩ := hr
    exact ⟨b, k, h m b ha h1, h2⟩
  | .e, u, _, hr => by unfold Rx at hr ⊢; exact hr
  | .mr m, u, ha, hr => by
    unfold Rx at hr ⊢; unfold XV.all at ha
    obtain ⟨b, h1, h2⟩ := hr
    exact ⟨b, h m b ha h1, h2⟩
  | .f g cs, u, ha, hr => by
    unfold Rx at hr ⊢; unfold XV.all at ha
    obtain ⟨vs, h1, h2⟩ := hr
    exact ⟨vs, h1, Rxs.sub h ha h2⟩
  | .a cs, u, ha, hr => by
    unfold Rx at hr ⊢; unfold XV.all at ha
    obtain ⟨vs, h1, h2⟩ := hr
    exact ⟨vs, h1, Rxs.sub h ha h2⟩
  | .t cs, u, ha, hr => by
    unfold Rx at hr ⊢; unfold XV.all at ha
    obtain ⟨vs, h1, h2⟩ := hr
    exact ⟨vs, h1, Rxs.sub h ha h2⟩
  | .i t x, u, ha, hr => by
    unfold Rx at hr ⊢; unfold XV.all at ha
    obtain ⟨y, h1, h2⟩ := hr
    exact ⟨y, h1, Rx.sub h ha h2⟩
  | .q, u, _, hr => by unfold Rx at hr ⊢; exact hr
  | .y m, u, ha, hr => by
    unfold Rx at hr ⊢; unfold XV.all at ha
    obtain ⟨b, h1, h2⟩ := hr
    exact ⟨b, h m b ha h1, h2⟩
  | .h g fs cs, u, ha, hr => by
    unfold Rx at hr ⊢; unfold XV.all at ha
    simp only [Bool.and_eq_true] at ha
    obtain ⟨ws, vs, h1, h2, h3⟩ := hr
    exact ⟨ws, vs, h1, Rxs.sub h ha.1 h2, Rxs.sub h ha.2 h3⟩
theorem Rxs.sub {β β' : Nat → Option (Nat × Nat)} {p : Nat → Bool} (h : ∀ m b, p m = true → β m = some b → β' m = some b) : ∀ {xs : List XV} {us : List Value}, XV.alls p xs = true → Rxs β xs us → Rxs β' xs us
  | [], us, _, hr => by unfold Rxs at hr ⊢; exact hr
  | x :: xs, us, ha, hr => by
    unfold Rxs at hr ⊢; unfold XV.alls at ha
    simp only [Bool.and_eq_true] at ha
    obtain ⟨v, vs, h1, h2, h3⟩ := hr
    exact ⟨v, vs, h1, Rx.sub h ha.1 h2, Rxs.sub h ha.2 h3⟩
end
mutual
theorem XV.all_true : ∀ x : XV, x.all (fun _ => true) = true
  | .v x => by unfold XV.all; rfl
  | .p m o => by unfold XV.all; rfl
  | .s m o n c z => by unfold XV.all; rfl
  | .e => by unfold XV.all; rfl
  | .mr m => by unfold XV.all; rfl
  | .f g cs => by unfold XV.all; exact XV.alls_true cs
  | .a cs => by unfold XV.all; exact XV.alls_true cs
  | .t cs => by unfold XV.all; exact XV.alls_true cs
  | .i ty x => by unfold XV.all; exact XV.all_true x
  | .q => by unfold XV.all; rfl
  | .y m => by unfold XV.all; rfl
  | .h _ fs cs => by unfold XV.all; rw [XV.alls_true fs, XV.alls_true cs]; rfl
theorem XV.alls_true : ∀ xs : List XV, XV.alls (fun _ => true) xs = true
  | [] => by unfold XV.alls; rfl
  | x :: xs => by unfold XV.alls; rw [XV.all_true x, XV.alls_true xs]; rfl
end
def Sub (β β' : Nat → Option (Nat × Nat)) : Prop := ∀ m b, β m = some b → β' m = some b
theorem Sub.refl (β : Nat → Option (Nat × Nat)) : Sub β β := fun _ _ h => h
theorem Sub.trans {β γ δ : Nat → Option (Nat × Nat)} (h : Sub β γ) (k : Sub γ δ) : Sub β δ := fun m b e => k m b (h m b e)
theorem Rx.mono {β β' : Nat → Option (Nat × Nat)} (h : Sub β β') {x : XV} {u : Value} (hr : Rx β x u) : Rx β' x u := Rx.sub (p := fun _ => true) (fun m b _ => h m b) (XV.all_true x) hr
theorem Rxs.mono {β β' : Nat → Option (Nat × Nat)} (h : Sub β β') {xs : List XV} {us : List Value} (hr : Rxs β xs us) : Rxs β' xs us := Rxs.sub (p := fun _ => true) (fun m b _ => h m b) (XV.alls_true xs) hr
theorem rx_v {β : Nat → Option (Nat × Nat)} {x u : Value} : Rx β (.v x) u ↔ u = x := by unfold Rx; rfl
theorem rx_q {β : Nat → Option (Nat × Nat)} {u : Value} : Rx β .q u ↔ ∃ j : Int, 1 ≤ j ∧ u = .int .i64 j := by unfold Rx; rfl
theorem rx_y {β : Nat → Option (Nat × Nat)} {m : Nat} {u : Value} : Rx β (.y m) u ↔ ∃ b, β m = some b ∧ u = .func (.yield b.1) #[] #[] := by unfold Rx; rfl
theorem rx_h {β : Nat → Option (Nat × Nat)} {g : FuncId} {fs cs : List XV} {u : Value} : Rx β (.h g fs cs) u ↔ ∃ ws vs : List Value, u = .func (.func g) ws.toArray vs.toArray ∧ Rxs β fs ws ∧ Rxs β cs vs := by unfold Rx; rfl
theorem rx_p {β : Nat → Option (Nat × Nat)} {m o : Nat} {u : Value} : Rx β (.p m o) u ↔ ∃ b, β m = some b ∧ u = .pointer (some ⟨b.1, o, none⟩) := by unfold Rx; rfl
theorem rx_s {β : Nat → Option (Nat × Nat)} {m o n : Nat} {c : Option Nat} {z : Nat} {u : Value} : Rx β (.s m o n c z) u ↔ ∃ b k, β m = some b ∧ u = .slice (some ⟨b.1, o, none⟩) n k ∧ n ≤ k ∧ (∀ c', c = some c' → k = c') ∧ (c = none → o + k * z = b.2) := by unfold Rx; rfl
theorem rx_e {β : Nat → Option (Nat × Nat)} {u : Value} : Rx β .e u ↔ ∃ A k, u = .slice A 0 k := by unfold Rx; rfl
theorem rx_m {β : Nat → Option (Nat × Nat)} {m : Nat} {u : Value} : Rx β (.mr m) u ↔ ∃ b, β m = some b ∧ u = .map (some b.1) := by unfold Rx; rfl
theorem rx_f {β : Nat → Option (Nat × Nat)} {g : FuncId} {cs : List XV} {u : Value} : Rx β (.f g cs) u ↔ ∃ vs : List Value, u = .func (.func g) #[] vs.toArray ∧ Rxs β cs vs := by unfold Rx; rfl
theorem rx_a {β : Nat → Option (Nat × Nat)} {cs : List XV} {u : Value} : Rx β (.a cs) u ↔ ∃ vs : List Value, u = .agg vs.toArray ∧ Rxs β cs vs := by unfold Rx; rfl
theorem rx_t {β : Nat → Option (Nat × Nat)} {cs : List XV} {u : Value} : Rx β (.t cs) u ↔ ∃ vs : List Value, u = .tuple vs.toArray ∧ Rxs β cs vs := by unfold Rx; rfl
theorem rx_i {β : Nat → Option (Nat × Nat)} {t : TypeId} {x : XV} {u : Value} : Rx β (.i t x) u ↔ ∃ y, u = .iface t y ∧ Rx β x y := by
  constructor
  · intro h; unfold Rx at h; exact h
  · intro h; unfold Rx; exact h
theorem rxs_nil {β : Nat → Option (Nat × Nat)} {us : List Value} : Rxs β [] us ↔ us = [] := by unfold Rxs; rfl
theorem rxs_cons {β : Nat → Option (Nat × Nat)} {x : XV} {xs : List XV} {us : List Value} : Rxs β (x :: xs) us ↔ ∃ v vs, us = v :: vs ∧ Rx β x v ∧ Rxs β xs vs := by
  constructor
  · intro h; unfold Rxs at h; exact h
  · intro h; unfold Rxs; exact h
theorem Rxs.nil {β : Nat → Option (Nat × Nat)} : Rxs β [] [] := rxs_nil.2 rfl
theorem Rxs.cons {β : Nat → Option (Nat × Nat)} {x : XV} {xs : List XV} {v : Value} {vs : List Value} (h : Rx β x v) (hs : Rxs β xs vs) : Rxs β (x :: xs) (v :: vs) := rxs_cons.2 ⟨v, vs, rfl, h, hs⟩
theorem Rxs.len {β : Nat → Option (Nat × Nat)} : ∀ {xs : List XV} {us : List Value}, Rxs β xs us → us.length = xs.length
  | [], us, h => by rw [rxs_nil.1 h]; rfl
  | x :: xs, us, h => by obtain ⟨v, vs, rfl, _, h3⟩ := rxs_cons.1 h; simp [Rxs.len h3]
theorem Rxs.get {β : Nat → Option (Nat × Nat)} : ∀ {xs : List XV} {us : List Value}, Rxs β xs us → ∀ {k : Nat} {x : XV}, xs[k]? = some x → ∃ u, us[k]? = some u ∧ Rx β x u
  | [], us, h, k, x, hx => by simp at hx
  | y :: xs, us, h, k, x, hx => by
    obtain ⟨v, vs, rfl, h2, h3⟩ := rxs_cons.1 h
    cases k with
    | zero => simp at hx; subst hx; exact ⟨v, rfl, h2⟩
    | succ k => simpa using Rxs.get h3 (k := k) (by simpa using hx)
theorem Rxs.append {β : Nat → Option (Nat × Nat)} : ∀ {xs ys : List XV} {us vs : List Value}, Rxs β xs us → Rxs β ys vs → Rxs β (xs ++ ys) (us ++ vs)
  | [], ys, us, vs, h, k => by rw [rxs_nil.1 h]; exact k
  | x :: xs, ys, us, vs, h, k => by obtain ⟨v, ws, rfl, h2, h3⟩ := rxs_cons.1 h; exact Rxs.cons h2 (Rxs.append h3 k)
theorem Rxs.take {β : Nat → Option (Nat × Nat)} : ∀ {xs : List XV} {us : List Value} (n : Nat), Rxs β xs us → Rxs β (xs.take n) (us.take n)
  | xs, us, 0, h => by simpa using Rxs.nil
  | [], us, n + 1, h => by rw [rxs_nil.1 h]; exact Rxs.nil
  | x :: xs, us, n + 1, h => by obtain ⟨v, ws, rfl, h2, h3⟩ := rxs_cons.1 h; exact Rxs.cons h2 (Rxs.take n h3)
theorem Rxs.drop {β : Nat → Option (Nat × Nat)} : ∀ {xs : List XV} {us : List Value} (n : Nat), Rxs β xs us → Rxs β (xs.drop n) (us.drop n)
  | xs, us, 0, h => by simpa using h
  | [], us, n + 1, h => by rw [rxs_nil.1 h]; exact Rxs.nil
  | x :: xs, us, n + 1, h => by obtain ⟨v, ws, rfl, h2, h3⟩ := rxs_cons.1 h; exact Rxs.drop n h3
/-- the entries of a map -/
def REs (β : Nat → Option (Nat × Nat)) : List (Value × XV × Nat) → List MapEntry → Prop
  | [], es => es = []
  | c :: cs, es => ∃ e r, es = e :: r ∧ e.key = c.1 ∧ Rx β c.2.1 e.val ∧ e.born = c.2.2 ∧ REs β cs r
theorem REs.mono {β β' : Nat → Option (Nat × Nat)} (h : Sub β β') : ∀ {cs : List (Value × XV × Nat)} {es : List MapEntry}, REs β cs es → REs β' cs es
  | [], es, hr => hr
  | c :: cs, es, hr => by
    obtain ⟨e, r, h1, h2, h3, h4, h5⟩ := hr
    exact ⟨e, r, h1, h2, h3.mono h, h4, REs.mono h h5⟩
theorem REs.sub {β β' : Nat → Option (Nat × Nat)} {p : Nat → Bool} (h : ∀ m b, p m = true → β m = some b → β' m = some b) : ∀ {cs : List (Value × XV × Nat)} {es : List MapEntry}, (cs.all fun c => c.2.1.all p) = true → REs β cs es → REs β' cs es
  | [], es, _, hr => hr
  | c :: cs, es, ha, hr => by
    simp only [List.all_cons, Bool.and_eq_true] at ha
    obtain ⟨e, r, h1, h2, h3, h4, h5⟩ := hr
    exact ⟨e, r, h1, h2, Rx.sub h ha.1 h3, h4, REs.sub h ha.2 h5⟩
/-- the slot that stands for the deferred calls -/
def DT : Nat := 1000000
def lk : List (Nat × XV) → Nat → XV
  | [], _ => .v undef
  | (k, v) :: l, t => bif Nat.beq k t then v else lk l t
/-- the jump that a round has left -/
def pjC : Nat → Option Code
  | 0 => none
  | 1 => some .ret
  | n + 2 => some (.exit n)
def lkAll (p : Nat → Bool) (L : List (Nat × XV)) : Bool := L.all fun x => x.2.all p
theorem lk_all {p : Nat → Bool} : ∀ {L : List (Nat × XV)} {t : Nat}, lkAll p L = true → (lk L t).all p = true
  | [], t, _ => by show XV.all p (.v undef) = true; unfold XV.all; rfl
  | (k, x) :: L, t, h => by
    have h' : x.all p = true ∧ lkAll p L = true := by
      unfold lkAll at h ⊢
      rw [List.all_cons, Bool.and_eq_true] at h
      exact h
    show XV.all p (bif Nat.beq k t then x else lk L t) = true
    cases Nat.beq k t with
    | true => exact h'.1
    | false => exact lk_all h'.2
/-- what lies in the block of the name m -/
def Ro (β : Nat → Option (Nat × Nat)) (w : World) (m : Nat) : XO → Prop
  | .no => True
  | .dead => True
  | .c cs ty opn => ∃ b us vs fz, β m = some b ∧ w.heap[b.1]? = some (.cells (us ++ vs).toArray ty fz) ∧ us.length + vs.length = b.2 ∧ (∀ o, o < us.length + vs.length → ¬ (fz.1 ≤ o ∧ o < fz.2)) ∧ Rxs β cs us ∧ (opn = false → vs = [])
  | .mp es ck => ∃ b ents, β m = some b ∧ w.heap[b.1]? = some (.map (List.toArray ents) ck) ∧ REs β es ents
  | .si s p => ∃ b, β m = some b ∧ w.heap[b.1]? = some (.stringIter s p)
  | .mi q since seen st => ∃ b r, β m = some b ∧ w.heap[b.1]? = some (.mapIter r since seen st) ∧ (match q with | none => r = none | some k => ∃ g, β k = some g ∧ r = some g.1)
  | .df => ∃ b, β m = some b ∧ w.heap[b.1]? = some (.deferred (some []))
  | .lp L N ps assign body st pend => ∃ b r, β m = some b ∧ w.heap[b.1]? = some (.loop r) ∧ r.tmps.size = N ∧ (∀ t, Rx β (lk L t) (r.tmps.getD t undef)) ∧ r.params = ps ∧ r.assign = assign ∧ r.body = body ∧ r.state = st ∧ r.pending = pjC pend
theorem Ro.some {β : Nat → Option (Nat × Nat)} {w : World} {m : Nat} {o : XO} (h : Ro β w m o) (hl : o.live = true) : ∃ b, β m = some b ∧ b.1 < w.heap.size := by
  cases o with
  | no => cases hl
  | dead => cases hl
  | c cs ty opn => obtain ⟨b, _, _, _, h1, h2, _⟩ := h; exact ⟨b, h1, (Array.getElem?_eq_some_iff.1 h2).1⟩
  | mp es ck => obtain ⟨b, _, h1, h2, _⟩ := h; exact ⟨b, h1, (Array.getElem?_eq_some_iff.1 h2).1⟩
  | si s p => obtain ⟨b, h1, h2⟩ := h; exact ⟨b, h1, (Array.getElem?_eq_some_iff.1 h2).1⟩
  | mi q s e st => obtain ⟨b, _, h1, h2, _⟩ := h; exact ⟨b, h1, (Array.getElem?_eq_some_iff.1 h2).1⟩
  | df => obtain ⟨b, h1, h2⟩ := h; exact ⟨b, h1, (Array.getElem?_eq_some_iff.1 h2).1⟩
  | lp L N ps a c st pe => obtain ⟨b, _, h1, h2, _⟩ := h; exact ⟨b, h1, (Array.getElem?_eq_some_iff.1 h2).1⟩
theorem Ro.ext {β β' : Nat → Option (Nat × Nat)} {w w' : World} {m : Nat} {o : XO} (hβ : Sub β β') (hw : ∀ b, o.live = true → β m = .some b → w'.heap[b.1]? = w.heap[b.1]?) (h : Ro β w m o) : Ro β' w' m o := by
  cases o with
  | no => trivial
  | dead => trivial
  | c cs ty opn => obtain ⟨b, us, vs, fz, h1, h2, h3, h6, h4, h5⟩ := h; exact ⟨b, us, vs, fz, hβ _ _ h1, (hw b rfl h1).trans h2, h3, h6, h4.mono hβ, h5⟩
  | mp es ck => obtain ⟨b, ents, h1, h2, h3⟩ := h; exact ⟨b, ents, hβ _ _ h1, (hw b rfl h1).trans h2, h3.mono hβ⟩
  | si s p => obtain ⟨b, h1, h2⟩ := h; exact ⟨b, hβ _ _ h1, (hw b rfl h1).trans h2⟩
  | mi q s e st =>
    obtain ⟨b, r, h1, h2, h3⟩ := h
    refine ⟨b, r, hβ _ _ h1, (hw b rfl h1).trans h2, ?_⟩
    cases q with
    | none => exact h3
    | some k => obtain ⟨g, h4, h5⟩ := h3; exact ⟨g, hβ _ _ h4, h5⟩
  | df => obtain ⟨b, h1, h2⟩ := h; exact ⟨b, hβ _ _ h1, (hw b rfl h1).trans h2⟩
  | lp L N ps a c st pe =>
    obtain ⟨b, r, h1, h2, h3, h4, h5⟩ := h
    exact ⟨b, r, hβ _ _ h1, (hw b rfl h1).trans h2, h3, fun t => (h4 t).mono hβ, h5⟩
/-- a known value -/
def ofV : Nat → Value → XV
  | n + 1, .agg cs => .a (cs.toList.map (ofV n))
  | n + 1, .tuple cs => .t (cs.toList.map (ofV n))
  | n + 1, .iface t x => .i t (ofV n x)
  | n + 1, .func (.func g) fs cs => bif fs.isEmpty then .f g (cs.toList.map (ofV n)) else .v (.func (.func g) fs cs)
  | _, x => .v x
theorem rxs_map {β : Nat → Option (Nat × Nat)} {f : Value → XV} (h : ∀ x, Rx β (f x) x) : ∀ l : List Value, Rxs β (l.map f) l
  | [] => Rxs.nil
  | x :: l => Rxs.cons (h x) (rxs_map h l)
theorem rx_ofV (β : Nat → Option (Nat × Nat)) : ∀ (n : Nat) (x : Value), Rx β (ofV n x) x
  | 0, x => by unfold ofV; exact rx_v.2 rfl
  | n + 1, x => by
    unfold ofV
    split
    · rename_i cs h; obtain ⟨rfl, rfl⟩ := h; exact rx_a.2 ⟨_, rfl, rxs_map (rx_ofV β n) _⟩
    · rename_i cs h; obtain ⟨rfl, rfl⟩ := h; exact rx_t.2 ⟨_, rfl, rxs_map (rx_ofV β n) _⟩
    · rename_i t y h; obtain ⟨rfl, rfl⟩ := h; exact rx_i.2 ⟨_, rfl, rx_ofV β n y⟩
    · rename_i g fs cs h
      obtain ⟨rfl, rfl⟩ := h
      cases hb : fs.isEmpty with
      | true =>
        have : fs = #[] := by simpa using hb
        subst this
        exact rx_f.2 ⟨_, rfl, rxs_map (rx_ofV β n) _⟩
      | false => exact rx_v.2 rfl
    · exact rx_v.2 rfl
structure AS where
  t : Nat → XV
  n : Nat → XO
/-- the blocks that a call may touch, and what the names of its caller stand for -/
structure Dom where
  p : Nat → Prop
  β : Nat → Option (Nat × Nat)
instance : CoeFun Dom (fun _ => Nat → Prop) := ⟨Dom.p⟩
/-- a deferred call as a value -/
def dV (d : Deferred) : Value := match d.target with
  | .collected r => .pointer (some ⟨r, 0, none⟩)
  | .fn (.func g) cap => .agg #[.func (.func g) #[] cap, .tuple d.args]
  | _ => .bool true
/-- what stands in a slot; the deferred calls stand in the slot DT -/
def atA (a : Act) (t : Nat) : Value := if t = DT then .tuple (a.defers.map dV).toArray else a.tmps.getD t undef
theorem atA_tmp {a : Act} {t : Nat} (h : t ≠ DT) : atA a t = a.tmps.getD t undef := if_neg h
theorem atA_dt (a : Act) : atA a DT = .tuple (a.defers.map dV).toArray := if_pos rfl
structure Fits (w0 : World) (D : Dom) (σ : AS) (a : Act) (w : World) (β : Nat → Option (Nat × Nat)) : Prop where
  o : ∀ m, σ.n m = .no → β m = none
  t : ∀ t, Rx β (σ.t t) (atA a t)
  n : ∀ m, Ro β w m (σ.n m)
  i : ∀ m m' b b', (σ.n m).live = true → (σ.n m').live = true → β m = some b → β m' = some b' → b.1 = b'.1 → m = m'
  b : ∀ m b, (σ.n m).live = true → β m = some b → D b.1 ∨ w0.heap.size ≤ b.1
  d : ∀ m, σ.n m = .dead → ∃ b, β m = some b
  s : Sub D.β β
/-- the world has kept all but the blocks D -/
structure Wk (w0 : World) (D : Nat → Prop) (w : World) : Prop where
  os : w.os = w0.os
  tape : w.tape = w0.tape
  output : w.output = w0.output
  size : w0.heap.size ≤ w.heap.size
  block : ∀ g, g < w0.heap.size → ¬ D g → w.heap[g]? = w0.heap[g]?
structure St (N : Nat) (w0 : World) (D : Dom) (σ : AS) (a : Act) (w : World) : Prop where
  d : N ≤ DT
  s : a.tmps.size = N
  k : Wk w0 D.p w
  f : ∃ β, Fits w0 D σ a w β
def AS.ev (σ : AS) : Operand → Option XV
  | .tmp t => bif Nat.beq t DT then none else some (σ.t t)
  | .const v => some (ofV 20 v)
  | .func f => some (.f f [])
  | .global g => some (.v (.pointer (some ⟨g, 0, none⟩)))
theorem Fits.ev {w0 : World} {D : Dom} {σ : AS} {a : Act} {w : World} {β : Nat → Option (Nat × Nat)} (h : Fits w0 D σ a w β) (x : Operand) {c : XV} (hc : σ.ev x = some c) : Rx β c (a.eval x) := by
  cases x with
  | tmp t =>
    have hc' : (bif Nat.beq t DT then none else some (σ.t t)) = some c := hc
    cases hb : Nat.beq t DT with
    | true => rw [hb] at hc'; cases hc'
    | false =>
      rw [hb] at hc'; injection hc' with hc'; subst hc'
      have hne : t ≠ DT := fun e => by rw [e, Nat.beq_refl] at hb; cases hb
      have := h.t t
      rw [atA_tmp hne] at this
      exact this
  | const v => injection hc with hc; subst hc; exact rx_ofV β 20 v
  | global g => injection hc with hc; subst hc; exact rx_v.2 rfl
  | func f => injection hc with hc; subst hc; exact rx_f.2 ⟨[], rfl, Rxs.nil⟩
/-- what an operation does to the state -/
structure Eff where
  tw : Option (Nat × XV)
  nw : List (Nat × XO)
  rn : List Nat
  fr : List Nat
def nwGet : List (Nat × XO) → Nat → Option XO
  | [], _ => none
  | (k, o) :: l, m => bif Nat.beq k m then some o else nwGet l m
def Eff.ap (e : Eff) (σ : AS) : AS where
  t := fun t => match e.tw with
    | some (d, v) => bif Nat.beq d t then v else σ.t t
    | none => σ.t t
  n := fun m => (nwGet e.nw m).getD (σ.n m)
def tmpsOf (o : Oper) : List Tmp := o.op.operands.toList.filterMap fun | .tmp t => some t | _ => none
structure Eff.ok (e : Eff) (o : Oper) (σ σ' : AS) : Prop where
  t : ∀ t ∈ tmpsOf o, σ'.t t = σ.t t
  n : ∀ m ∈ e.rn, σ'.n m = σ.n m
  f : ∀ m ∈ e.fr, σ'.n m = .no
/-- what an operation does -/
def upX (P : Program) (o : Oper) (a : Act) (K : Act → World → Prop) : Result Next → Prop
  | .ok (.value v) w' => K (a.put o.dst v) w'
  | .ok .skip w' => K (a.put o.dst undef) w'
  | .ok (.enter f args) w' => Calls P f args w' fun e w'' => match e with
    | .returned v => K (a.put o.dst v) w''
    | _ => False
  | .ok (.round l f tmps assign body) w' => RoundIn Fence.wide 0 P l f tmps assign body w' fun e w'' => match e with
    | .returned v => K (a.put o.dst v) w''
    | _ => False
  | .ok (.defer d) w' => K ({ a with defers := d :: a.defers }.put o.dst undef) w'
  | _ => False
def owp (P : Program) (o : Oper) (a : Act) (w : World) (K : Act → World → Prop) (_ : Exit → Act → World → Prop) : Prop := (∀ c, o.op ≠ .defer c) ∧ upX P o a K ((execOp a.eval o).run P w)
/-- everything, in a round or in none -/
def FnR (r : Option Nat) : Fence := { Fence.wide with round := r }
theorem owp_in {P : Program} {o : Oper} {a : Act} {w : World} {K : Act → World → Prop} {Q Q' : Exit → Act → World → Prop} (r : Option Nat) (h : owp P o a w K Q') : o.wpIn (FnR r) 0 P a w K Q := by
  obtain ⟨hnd, h⟩ := h
  refine ⟨fun _ _ => trivial, ?_⟩
  rw [Oper.semAt_eq _ _ _ hnd]
  generalize (execOp a.eval o).run P w = x at h ⊢
  cases x with
  | ok n w' =>
    cases n <;> first
      | exact h
      | exact ⟨fun h => (by cases h), (callsIn_wide (n := 0 - 1)).2 (Calls.mono h (fun e w'' he => by cases e <;> first | exact he | exact he.elim))⟩
      | exact ⟨fun h => (by cases h), RoundIn.mono (F := Fence.wide) h (fun e w'' he => by cases e <;> first | exact he | exact he.elim)⟩
      | exact h.elim
  | halt x w' => exact h.elim
theorem nd_of {P : Program} {o : Oper} {ρ : Operand → Value} {w w' : World} {n : Next} (h : (execOp ρ o).run P w = .ok n w') (hn : ∀ d, n ≠ .defer d) : ∀ c, o.op ≠ .defer c := fun c hc => by
  unfold execOp at h
  simp only [hc, Sem.run_bind] at h
  cases hr : (resolve ρ c o.type).run P w with
  | ok d w1 => rw [hr] at h; simp only [Result.andThen_ok, Sem.run_pure, Result.ok.injEq] at h; exact hn d h.1.symm
  | halt x w1 => rw [hr] at h; cases h
theorem owp_v {P : Program} {o : Oper} {a : Act} {w w' : World} {K : Act → World → Prop} {Q : Exit → Act → World → Prop} {v : Value} (h : (execOp a.eval o).run P w = .ok (.value v) w') (hK : K (a.put o.dst v) w') : owp P o a w K Q :=
  ⟨nd_of h (fun _ e => by cases e), by rw [h]; exact hK⟩
theorem owp_s {P : Program} {o : Oper} {a : Act} {w w' : World} {K : Act → World → Prop} {Q : Exit → Act → World → Prop} (h : (execOp a.eval o).run P w = .ok .skip w') (hK : K (a.put o.dst undef) w') : owp P o a w K Q :=
  ⟨nd_of h (fun _ e => by cases e), by rw [h]; exact hK⟩
theorem owp_e {P : Program} {o : Oper} {a : Act} {w w' : World} {K : Act → World → Prop} {Q : Exit → Act → World → Prop} {f : FuncId} {args : Array Value} (h : (execOp a.eval o).run P w = .ok (.enter f args) w') (hK : Calls P f args w' fun e w'' => match e with | .returned v => K (a.put o.dst v) w'' | _ => False) : owp P o a w K Q :=
  ⟨nd_of h (fun _ e => by cases e), by rw [h]; exact hK⟩
theorem owp_r {P : Program} {o : Oper} {a : Act} {w w' : World} {K : Act → World → Prop} {Q : Exit → Act → World → Prop} {l : Nat} {f : FuncId} {tmps : Array Value} {c d : Code} (h : (execOp a.eval o).run P w = .ok (.round l f tmps c d) w') (hK : RoundIn Fence.wide 0 P l f tmps c d w' fun e w'' => match e with | .returned v => K (a.put o.dst v) w'' | _ => False) : owp P o a w K Q :=
  ⟨nd_of h (fun _ e => by cases e), by rw [h]; exact hK⟩
def OpS (P : Program) (N : Nat) (w0 : World) (D : Dom) (o : Oper) (σ : AS) (e : Eff) : Prop :=
  ∀ σ', e.ok o σ σ' → ∀ a w, St N w0 D σ' a w → ∀ K Q, (∀ a' w', St N w0 D (e.ap σ') a' w' → K a' w') → owp P o a w K Q
theorem ev_ok {e : Eff} {o : Oper} {σ σ' : AS} (h : e.ok o σ σ') {x : Operand} (hx : x ∈ o.op.operands) : σ'.ev x = σ.ev x := by
  cases x with
  | tmp t => exact congrArg (fun y => bif Nat.beq t DT then none else some y) (h.t t (by unfold tmpsOf; rw [List.mem_filterMap]; exact ⟨_, by simpa using hx, rfl⟩))
  | _ => rfl
theorem ev_get {w0 : World} {D : Dom} {o : Oper} {e : Eff} {σ σ' : AS} {a : Act} {w : World} {β : Nat → Option (Nat × Nat)} (hok : e.ok o σ σ') (hF : Fits w0 D σ' a w β) {x : Operand} (hx : x ∈ o.op.operands) {v : XV} (h : σ.ev x = some v) : Rx β v (a.eval x) := hF.ev x ((ev_ok hok hx).trans h)
theorem nbeq {a b : Nat} (h : a ≠ b) : Nat.beq a b = false := by
  cases hb : Nat.beq a b with
  | false => rfl
  | true => exact absurd (Nat.eq_of_beq_eq_true hb) h
theorem put_size (a : Act) (d : Option Nat) (v : Value) : (a.put d v).tmps.size = a.tmps.size := by cases d <;> simp [Act.put]
theorem put_defers (a : Act) (d : Option Nat) (v : Value) : (a.put d v).defers = a.defers := by cases d <;> rfl
def dOk (o : Oper) (N : Nat) : Bool := match o.dst with | some d => Nat.blt d N | none => true
theorem put_get0 {a : Act} {d : Nat} {v : Value} (h : d < a.tmps.size) (t : Nat) : (a.put (some d) v).tmps.getD t undef = if d = t then v else a.tmps.getD t undef := by
  show (a.tmps.setIfInBounds d v).getD t undef = _
  by_cases hd : d = t
  · subst hd; simp [h]
  · simp [Array.getElem?_setIfInBounds_ne hd, hd]
theorem put_get {a : Act} {d : Nat} {v : Value} (h : d < a.tmps.size) (hN : a.tmps.size ≤ DT) (t : Nat) : atA (a.put (some d) v) t = if d = t then v else atA a t := by
  by_cases ht : t = DT
  · subst ht
    rw [if_neg (by omega), atA_dt, atA_dt, put_defers]
  · rw [atA_tmp ht, atA_tmp ht]; exact put_get0 h t
section
variable {P : Program} {N : Nat} {w0 : World} {D : Dom}
/-- the slots behind an operation -/
theorem Fits.slots {σ : AS} {a : Act} {w : World} {β β' : Nat → Option (Nat × Nat)} (h : Fits w0 D σ a w β) (hβ : Sub β β') {o : Oper} (hd : dOk o N = true) (hN : a.tmps.size = N) (hDT : N ≤ DT) {x : XV} {v : Value} (hv : Rx β' x v) (nw : List (Nat × XO)) (rn fr : List Nat) (t : Nat) :
    Rx β' (((⟨o.dst.map fun d => (d, x), nw, rn, fr⟩ : Eff).ap σ).t t) (atA (a.put o.dst v) t) := by
  have h2 := (h.t t).mono hβ
  cases hdd : o.dst with
  | none => exact h2
  | some d =>
    rw [put_get (by unfold dOk at hd; rw [hdd] at hd; simp only at hd; have := Nat.le_of_ble_eq_true hd; omega) (by omega)]
    show Rx β' (bif Nat.beq d t then x else σ.t t) _
    by_cases he : d = t
    · subst he; rw [Nat.beq_refl, if_pos rfl]; exact hv
    · rw [nbeq he, if_neg he]; exact h2
/-- the state behind an operation that has changed the blocks nw -/
theorem St.updF {σ : AS} {a : Act} {w w' : World} {β β' : Nat → Option (Nat × Nat)} (hs : St N w0 D σ a w) (h : Fits w0 D σ a w β) (hβ : Sub β β') {nw : List (Nat × XO)}
    (h1 : w'.os = w.os) (h2 : w'.tape = w.tape) (h3 : w'.output = w.output) (h4 : w.heap.size ≤ w'.heap.size)
    (hold : ∀ m, nwGet nw m = none → Ro β' w' m (σ.n m))
    (hfr : ∀ g, g < w.heap.size → (∀ m b, (σ.n m).live = true → β m = some b → b.1 ≠ g) → w'.heap[g]? = w.heap[g]?)
    (hno : ∀ m, nwGet nw m = none → β m = none → β' m = none)
    (hnew : ∀ m o, nwGet nw m = some o → o ≠ .no ∧ Ro β' w' m o) (hdead : ∀ m, nwGet nw m = some .dead → ∃ b, β' m = some b)
    (hinj : ∀ m o b, nwGet nw m = some o → o.live = true → β' m = some b → (∀ m' b', nwGet nw m' = none → (σ.n m').live = true → β m' = some b' → b'.1 ≠ b.1) ∧ (∀ m' o' b', nwGet nw m' = some o' → o'.live = true → β' m' = some b' → b.1 = b'.1 → m = m'))
    (hb : ∀ m o b, nwGet nw m = some o → o.live = true → β' m = some b → D b.1 ∨ w0.heap.size ≤ b.1)
    {o : Oper} (hd : dOk o N = true) {x : XV} {v : Value} (hv : Rx β' x v) (rn fr : List Nat) :
    St N w0 D ((⟨o.dst.map fun d => (d, x), nw, rn, fr⟩ : Eff).ap σ) (a.put o.dst v) w' ∧ Fits w0 D ((⟨o.dst.map fun d => (d, x), nw, rn, fr⟩ : Eff).ap σ) (a.put o.dst v) w' β' := by
  have hn : ∀ m, ((⟨o.dst.map fun d => (d, x), nw, rn, fr⟩ : Eff).ap σ).n m = (nwGet nw m).getD (σ.n m) := fun _ => rfl
  have hlv : ∀ m b, nwGet nw m = none → (σ.n m).live = true → β' m = some b → β m = some b := by
    intro m b _ hl hb'
    obtain ⟨b0, g1, _⟩ := (h.n m).some hl
    rw [hβ m b0 g1] at hb'
    rw [g1, ← hb']
  suffices hfit : Wk w0 D.p w' ∧ Fits w0 D ((⟨o.dst.map fun d => (d, x), nw, rn, fr⟩ : Eff).ap σ) (a.put o.dst v) w' β' from ⟨⟨hs.d, by rw [put_size]; exact hs.s, hfit.1, β', hfit.2⟩, hfit.2⟩
  refine ⟨⟨h1.trans hs.k.os, h2.trans hs.k.tape, h3.trans hs.k.output, Nat.le_trans hs.k.size h4, fun g hg hD => ?_⟩, ⟨fun m hm => ?_, fun t => h.slots hβ hd hs.s hs.d hv nw rn fr t, fun m => ?_, fun m m' b b' l1 l2 e1 e2 e3 => ?_, fun m b l1 e1 => ?_, fun m hm => ?_, h.s.trans hβ⟩⟩
  · refine (hfr g (Nat.lt_of_lt_of_le hg hs.k.size) (fun m b hl he e => ?_)).trans (hs.k.block g hg hD)
    rcases h.b m b hl he with k | k
    · rw [e] at k; exact hD k
    · omega
  · rw [hn] at hm
    cases hq : nwGet nw m with
    | none => rw [hq] at hm; exact hno m hq (h.o m hm)
    | some o' => rw [hq] at hm; exact absurd hm (hnew m o' hq).1
  · rw [hn]
    cases hq : nwGet nw m with
    | none => exact hold m hq
    | some o' => exact (hnew m o' hq).2
  · rw [hn] at l1 l2
    cases hq : nwGet nw m with
    | none =>
      rw [hq] at l1
      have e1' := hlv m b hq l1 e1
      cases hq' : nwGet nw m' with
      | none => rw [hq'] at l2; exact h.i m m' b b' l1 l2 e1' (hlv m' b' hq' l2 e2) e3
      | some o' => rw [hq'] at l2; exact absurd e3 ((hinj m' o' b' hq' l2 e2).1 m b hq l1 e1')
    | some o' =>
      rw [hq] at l1
      cases hq' : nwGet nw m' with
      | none => rw [hq'] at l2; exact absurd e3.symm ((hinj m o' b hq l1 e1).1 m' b' hq' l2 (hlv m' b' hq' l2 e2))
      | some o'' => rw [hq'] at l2; exact (hinj m o' b hq l1 e1).2 m' o'' b' hq' l2 e2 e3
  · rw [hn] at l1
    cases hq : nwGet nw m with
    | none => rw [hq] at l1; exact h.b m b l1 (hlv m b hq l1 e1)
    | some o' => rw [hq] at l1; exact hb m o' b hq l1 e1
  · rw [hn] at hm
    cases hq : nwGet nw m with
    | none => rw [hq] at hm; obtain ⟨b, e⟩ := h.d m hm; exact ⟨b, hβ m b e⟩
    | some o' => rw [hq] at hm; have hm' : o' = .dead := hm; subst hm'; exact hdead m hq
theorem St.upd' {σ : AS} {a : Act} {w w' : World} {β β' : Nat → Option (Nat × Nat)} (hs : St N w0 D σ a w) (h : Fits w0 D σ a w β) (hβ : Sub β β') {nw : List (Nat × XO)}
    (h1 : w'.os = w.os) (h2 : w'.tape = w.tape) (h3 : w'.output = w.output) (h4 : w.heap.size ≤ w'.heap.size)
    (hold : ∀ m, nwGet nw m = none → Ro β' w' m (σ.n m))
    (hfr : ∀ g, g < w.heap.size → (∀ m b, (σ.n m).live = true → β m = some b → b.1 ≠ g) → w'.heap[g]? = w.heap[g]?)
    (hno : ∀ m, nwGet nw m = none → β m = none → β' m = none)
    (hnew : ∀ m o, nwGet nw m = some o → o ≠ .no ∧ Ro β' w' m o) (hdead : ∀ m, nwGet nw m = some .dead → ∃ b, β' m = some b)
    (hinj : ∀ m o b, nwGet nw m = some o → o.live = true → β' m = some b → (∀ m' b', nwGet nw m' = none → (σ.n m').live = true → β m' = some b' → b'.1 ≠ b.1) ∧ (∀ m' o' b', nwGet nw m' = some o' → o'.live = true → β' m' = some b' → b.1 = b'.1 → m = m'))
    (hb : ∀ m o b, nwGet nw m = some o → o.live = true → β' m = some b → D b.1 ∨ w0.heap.size ≤ b.1)
    {o : Oper} (hd : dOk o N = true) {x : XV} {v : Value} (hv : Rx β' x v) (rn fr : List Nat) :
    St N w0 D ((⟨o.dst.map fun d => (d, x), nw, rn, fr⟩ : Eff).ap σ) (a.put o.dst v) w' := by
  refine (hs.updF h hβ h1 h2 h3 h4 hold hfr hno hnew hdead hinj hb hd hv rn fr).1
/-- the same, where the old blocks are as they were -/
theorem St.upd {σ : AS} {a : Act} {w w' : World} {β β' : Nat → Option (Nat × Nat)} (hs : St N w0 D σ a w) (h : Fits w0 D σ a w β) (hβ : Sub β β') {nw : List (Nat × XO)}
    (h1 : w'.os = w.os) (h2 : w'.tape = w.tape) (h3 : w'.output = w.output) (h4 : w.heap.size ≤ w'.heap.size)
    (hold : ∀ m b, nwGet nw m = none → (σ.n m).live = true → β m = some b → w'.heap[b.1]? = w.heap[b.1]?)
    (hfr : ∀ g, g < w.heap.size → (∀ m b, (σ.n m).live = true → β m = some b → b.1 ≠ g) → w'.heap[g]? = w.heap[g]?)
    (hno : ∀ m, nwGet nw m = none → β m = none → β' m = none)
    (hnew : ∀ m o, nwGet nw m = some o → o ≠ .no ∧ Ro β' w' m o) (hdead : ∀ m, nwGet nw m = some .dead → ∃ b, β' m = some b)
    (hinj : ∀ m o b, nwGet nw m = some o → o.live = true → β' m = some b → (∀ m' b', nwGet nw m' = none → (σ.n m').live = true → β m' = some b' → b'.1 ≠ b.1) ∧ (∀ m' o' b', nwGet nw m' = some o' → o'.live = true → β' m' = some b' → b.1 = b'.1 → m = m'))
    (hb : ∀ m o b, nwGet nw m = some o → o.live = true → β' m = some b → D b.1 ∨ w0.heap.size ≤ b.1)
    {o : Oper} (hd : dOk o N = true) {x : XV} {v : Value} (hv : Rx β' x v) (rn fr : List Nat) :
    St N w0 D ((⟨o.dst.map fun d => (d, x), nw, rn, fr⟩ : Eff).ap σ) (a.put o.dst v) w' :=
  hs.upd' h hβ h1 h2 h3 h4 (fun m hm => (h.n m).ext hβ (fun b hl hb' => hold m b hm hl hb')) hfr hno hnew hdead hinj hb hd hv rn fr
theorem St.updE {σ : AS} {a : Act} {w w' : World} {β β' : Nat → Option (Nat × Nat)} (hs : St N w0 D σ a w) (h : Fits w0 D σ a w β) (hβ : Sub β β') {nw : List (Nat × XO)}
    (h1 : w'.os = w.os) (h2 : w'.tape = w.tape) (h3 : w'.output = w.output) (h4 : w.heap.size ≤ w'.heap.size)
    (hold : ∀ m b, nwGet nw m = none → (σ.n m).live = true → β m = some b → w'.heap[b.1]? = w.heap[b.1]?)
    (hfr : ∀ g, g < w.heap.size → (∀ m b, (σ.n m).live = true → β m = some b → b.1 ≠ g) → w'.heap[g]? = w.heap[g]?)
    (hno : ∀ m, nwGet nw m = none → β m = none → β' m = none)
    (hnew : ∀ m o, nwGet nw m = some o → o ≠ .no ∧ Ro β' w' m o) (hdead : ∀ m, nwGet nw m = some .dead → ∃ b, β' m = some b)
    (hinj : ∀ m o b, nwGet nw m = some o → o.live = true → β' m = some b → (∀ m' b', nwGet nw m' = none → (σ.n m').live = true → β m' = some b' → b'.1 ≠ b.1) ∧ (∀ m' o' b', nwGet nw m' = some o' → o'.live = true → β' m' = some b' → b.1 = b'.1 → m = m'))
    (hb : ∀ m o b, nwGet nw m = some o → o.live = true → β' m = some b → D b.1 ∨ w0.heap.size ≤ b.1)
    {o : Oper} (hd : dOk o N = true) {x : XV} {v : Value} (hv : Rx β' x v) (rn fr : List Nat) :
    St N w0 D ((⟨o.dst.map fun d => (d, x), nw, rn, fr⟩ : Eff).ap σ) (a.put o.dst v) w' ∧ Fits w0 D ((⟨o.dst.map fun d => (d, x), nw, rn, fr⟩ : Eff).ap σ) (a.put o.dst v) w' β' :=
  hs.updF h hβ h1 h2 h3 h4 (fun m hm => (h.n m).ext hβ (fun b hl hb' => hold m b hm hl hb')) hfr hno hnew hdead hinj hb hd hv rn fr
theorem nwGet_nil (m : Nat) : nwGet [] m = none := rfl
/-- a value, and nothing else -/
theorem opS_still {o : Oper} {σ : AS} {x : XV} {rn : List Nat} (hd : dOk o N = true)
    (h : ∀ σ', (⟨o.dst.map fun d => (d, x), [], rn, []⟩ : Eff).ok o σ σ' → ∀ a w β, Fits w0 D σ' a w β → ∃ v, (execOp a.eval o).run P w = .ok (.value v) w ∧ Rx β x v) :
    OpS P N w0 D o σ ⟨o.dst.map fun d => (d, x), [], rn, []⟩ := by
  intro σ' hok a w hs K Q hK
  obtain ⟨β, hF⟩ := hs.f
  obtain ⟨v, hr, hv⟩ := h σ' hok a w β hF
  refine owp_v hr ?_
  exact hK _ _ (hs.upd hF (Sub.refl β) rfl rfl rfl (Nat.le_refl _) (fun _ _ _ _ _ => rfl) (fun _ _ _ => rfl) (fun _ _ h => h) (fun m o h => by cases h) (fun m h => by cases h) (fun m o b h => by cases h) (fun m o b h => by cases h) hd hv rn [])
theorem lt_of {σ : AS} {a : Act} {w : World} {β : Nat → Option (Nat × Nat)} (hF : Fits w0 D σ a w β) : ∀ k b, (σ.n k).live = true → β k = some b → b.1 < w.heap.size := fun k b hk hb => by
  obtain ⟨b0, g1, g2⟩ := (hF.n k).some hk
  rw [g1] at hb; injection hb with hb; rw [← hb]; exact g2
theorem nw1 {m k : Nat} {ob o : XO} (hk : nwGet [(m, ob)] k = some o) : k = m ∧ o = ob := by
  have hk' : (bif Nat.beq m k then some ob else none) = some o := hk
  cases hb : Nat.beq m k with
  | true => rw [hb] at hk'; injection hk' with hk'; exact ⟨(Nat.eq_of_beq_eq_true hb).symm, hk'.symm⟩
  | false => rw [hb] at hk'; cases hk'
theorem nw1_self (m : Nat) (ob : XO) : nwGet [(m, ob)] m = some ob := by show (bif Nat.beq m m then _ else _) = _; rw [Nat.beq_refl]; rfl
/-- a new block, named m -/
theorem St.new {σ : AS} {a : Act} {w w' : World} {β : Nat → Option (Nat × Nat)} (hs : St N w0 D σ a w) (hF : Fits w0 D σ a w β) {m z : Nat} {ob : XO} {obj : Obj} (hm : σ.n m = .no) (hl : ob.live = true)
    (h1 : w'.os = w.os) (h2 : w'.tape = w.tape) (h3 : w'.output = w.output) (h4 : w'.heap = w.heap.push obj)
    (hob : ∀ β', Sub β β' → β' m = some (w.heap.size, z) → Ro β' w' m ob) {o : Oper} (hd : dOk o N = true) {x : XV} {v : Value} (hv : ∀ β', Sub β β' → β' m = some (w.heap.size, z) → Rx β' x v) (rn : List Nat) :
    St N w0 D ((⟨o.dst.map fun d => (d, x), [(m, ob)], rn, [m]⟩ : Eff).ap σ) (a.put o.dst v) w' := by
  have hβm : β m = none := hF.o m hm
  let β' : Nat → Option (Nat × Nat) := fun k => if k = m then some (w.heap.size, z) else β k
  have hβ : Sub β β' := fun k b hk => by
    show (if k = m then _ else β k) = some b
    rw [if_neg (fun e => by rw [e, hβm] at hk; cases hk)]; exact hk
  have hβ' : β' m = some (w.heap.size, z) := if_pos rfl
  have hblk : ∀ g, g < w.heap.size → w'.heap[g]? = w.heap[g]? := fun g hg => by rw [h4, Array.getElem?_push_lt hg, Array.getElem?_eq_getElem hg]
  have hlt := lt_of hF
  refine hs.upd hF hβ h1 h2 h3 (by rw [h4]; simp) (fun k b _ hk hb => hblk _ (hlt k b hk hb)) (fun g hg _ => hblk g hg) (fun k hk hb => ?_) (fun k o hk => ?_) (fun k hk => (by rw [← (nw1 hk).2] at hl; cases hl)) (fun k o b hk hlo hb => ⟨fun k' b' hk' hl' e e2 => ?_, fun k' o' b' hk' _ _ _ => ?_⟩) (fun k o b hk _ hb => .inr ?_) hd (hv β' hβ hβ') rn [m]
  · show (if k = m then _ else β k) = none
    rw [if_neg (fun e => by rw [e, nw1_self] at hk; cases hk)]; exact hb
  · obtain ⟨rfl, rfl⟩ := nw1 hk
    exact ⟨fun e => (by rw [e] at hl; cases hl), hob β' hβ hβ'⟩
  · obtain ⟨rfl, rfl⟩ := nw1 hk
    rw [hβ'] at hb; injection hb with hb
    have := hlt k' b' hl' e; rw [← hb] at e2; simp only at e2; omega
  · exact (nw1 hk).1.trans (nw1 hk').1.symm
  · obtain ⟨rfl, rfl⟩ := nw1 hk
    rw [hβ'] at hb; injection hb with hb
    rw [← hb]; exact hs.k.size
theorem St.newF {σ : AS} {a : Act} {w w' : World} {β : Nat → Option (Nat × Nat)} (hs : St N w0 D σ a w) (hF : Fits w0 D σ a w β) {m z : Nat} {ob : XO} {obj : Obj} (hm : σ.n m = .no) (hl : ob.live = true)
    (h1 : w'.os = w.os) (h2 : w'.tape = w.tape) (h3 : w'.output = w.output) (h4 : w'.heap = w.heap.push obj)
    (hob : ∀ β', Sub β β' → β' m = some (w.heap.size, z) → Ro β' w' m ob) {o : Oper} (hd : dOk o N = true) {x : XV} {v : Value} (hv : ∀ β', Sub β β' → β' m = some (w.heap.size, z) → Rx β' x v) (rn : List Nat) :
    ∃ β', Sub β β' ∧ β' m = some (w.heap.size, z) ∧ St N w0 D ((⟨o.dst.map fun d => (d, x), [(m, ob)], rn, [m]⟩ : Eff).ap σ) (a.put o.dst v) w' ∧ Fits w0 D ((⟨o.dst.map fun d => (d, x), [(m, ob)], rn, [m]⟩ : Eff).ap σ) (a.put o.dst v) w' β' := by
  have hβm : β m = none := hF.o m hm
  let β' : Nat → Option (Nat × Nat) := fun k => if k = m then some (w.heap.size, z) else β k
  have hβ : Sub β β' := fun k b hk => by
    show (if k = m then _ else β k) = some b
    rw [if_neg (fun e => by rw [e, hβm] at hk; cases hk)]; exact hk
  have hβ' : β' m = some (w.heap.size, z) := if_pos rfl
  have hblk : ∀ g, g < w.heap.size → w'.heap[g]? = w.heap[g]? := fun g hg => by rw [h4, Array.getElem?_push_lt hg, Array.getElem?_eq_getElem hg]
  have hlt := lt_of hF
  refine ⟨β', hβ, hβ', ?_⟩
  refine hs.updE hF hβ h1 h2 h3 (by rw [h4]; simp) (fun k b _ hk hb => hblk _ (hlt k b hk hb)) (fun g hg _ => hblk g hg) (fun k hk hb => ?_) (fun k o hk => ?_) (fun k hk => (by rw [← (nw1 hk).2] at hl; cases hl)) (fun k o b hk hlo hb => ⟨fun k' b' hk' hl' e e2 => ?_, fun k' o' b' hk' _ _ _ => ?_⟩) (fun k o b hk _ hb => .inr ?_) hd (hv β' hβ hβ') rn [m]
  · show (if k = m then _ else β k) = none
    rw [if_neg (fun e => by rw [e, nw1_self] at hk; cases hk)]; exact hb
  · obtain ⟨rfl, rfl⟩ := nw1 hk
    exact ⟨fun e => (by rw [e] at hl; cases hl), hob β' hβ hβ'⟩
  · obtain ⟨rfl, rfl⟩ := nw1 hk
    rw [hβ'] at hb; injection hb with hb
    have := hlt k' b' hl' e; rw [← hb] at e2; simp only at e2; omega
  · exact (nw1 hk).1.trans (nw1 hk').1.symm
  · obtain ⟨rfl, rfl⟩ := nw1 hk
    rw [hβ'] at hb; injection hb with hb
    rw [← hb]; exact hs.k.size
/-- the block of the live name m holds something else -/
theorem St.set {σ : AS} {a : Act} {w w' : World} {β : Nat → Option (Nat × Nat)} (hs : St N w0 D σ a w) (hF : Fits w0 D σ a w β) {m : Nat} {b : Nat × Nat} {ob : XO} (hm : (σ.n m).live = true) (hb : β m = some b) (hl : ob.live = true)
    (h1 : w'.os = w.os) (h2 : w'.tape = w.tape) (h3 : w'.output = w.output) (h4 : w.heap.size ≤ w'.heap.size) (h5 : ∀ g, g < w.heap.size → g ≠ b.1 → w'.heap[g]? = w.heap[g]?)
    (hob : Ro β w' m ob) {o : Oper} (hd : dOk o N = true) {x : XV} {v : Value} (hv : Rx β x v) (rn : List Nat) :
    St N w0 D ((⟨o.dst.map fun d => (d, x), [(m, ob)], rn, []⟩ : Eff).ap σ) (a.put o.dst v) w' := by
  have hgm := nw1_self m ob
  have hlt := lt_of hF
  refine hs.upd hF (Sub.refl β) h1 h2 h3 h4 (fun k g hk hlk hg => h5 g.1 (hlt k g hlk hg) (fun e => ?_)) (fun g hg hk => h5 g hg (fun e => hk m b hm hb e.symm)) (fun k _ hk => hk) (fun k o hk => ?_) (fun k hk => (by rw [← (nw1 hk).2] at hl; cases hl)) (fun k o g hk hlo hg => ⟨fun k' b' hk' hl' e e2 => ?_, fun k' o' b' hk' _ _ _ => ?_⟩) (fun k o g hk _ hg => ?_) hd hv rn []
  · have := hF.i k m g b hlk hm hg hb e
    rw [this, hgm] at hk; cases hk
  · obtain ⟨rfl, rfl⟩ := nw1 hk
    exact ⟨fun e => (by rw [e] at hl; cases hl), hob⟩
  · obtain ⟨rfl, rfl⟩ := nw1 hk
    have := hF.i k' k b' g hl' hm e hg e2
    rw [this, hgm] at hk'; cases hk'
  · exact (nw1 hk).1.trans (nw1 hk').1.symm
  · obtain ⟨rfl, rfl⟩ := nw1 hk
    exact hF.b k g hm hg
/-- the name m goes; what it was has grown, and is named q -/
theorem St.swap {σ : AS} {a : Act} {w w' : World} {β : Nat → Option (Nat × Nat)} (hs : St N w0 D σ a w) (hF : Fits w0 D σ a w β) {m q : Nat} {b g0 : Nat × Nat} {ob : XO} (hm : (σ.n m).live = true) (hb : β m = some b) (hq : σ.n q = .no) (hl : ob.live = true)
    (h1 : w'.os = w.os) (h2 : w'.tape = w.tape) (h3 : w'.output = w.output) (h4 : w.heap.size ≤ w'.heap.size) (h5 : ∀ g, g < w.heap.size → g ≠ b.1 → w'.heap[g]? = w.heap[g]?) (hg0 : g0.1 = b.1 ∨ g0.1 = w.heap.size)
    (hob : ∀ β', Sub β β' → β' q = some g0 → Ro β' w' q ob) {o : Oper} (hd : dOk o N = true) {x : XV} {v : Value} (hv : ∀ β', Sub β β' → β' q = some g0 → Rx β' x v) (rn : List Nat) :
    St N w0 D ((⟨o.dst.map fun d => (d, x), [(q, ob), (m, .dead)], rn, [q]⟩ : Eff).ap σ) (a.put o.dst v) w' := by
  have hβm : β q = none := hF.o q hq
  have hqm : q ≠ m := fun e => by rw [e] at hβm; rw [hβm] at hb; cases hb
  let β' : Nat → Option (Nat × Nat) := fun k => if k = q then some g0 else β k
  have hβ : Sub β β' := fun k b hk => by
    show (if k = q then _ else β k) = some b
    rw [if_neg (fun e => by rw [e, hβm] at hk; cases hk)]; exact hk
  have hβ' : β' q = some g0 := if_pos rfl
  have hget : ∀ k o, nwGet [(q, ob), (m, .dead)] k = some o → (k = q ∧ o = ob) ∨ (k = m ∧ o = .dead) := fun k o hk => by
    have hk' : (bif Nat.beq q k then some ob else bif Nat.beq m k then some .dead else none) = some o := hk
    cases hb : Nat.beq q k with
    | true => rw [hb] at hk'; injection hk' with hk'; exact .inl ⟨(Nat.eq_of_beq_eq_true hb).symm, hk'.symm⟩
    | false =>
      rw [hb] at hk'
      cases hb2 : Nat.beq m k with
      | true => rw [hb2] at hk'; injection hk' with hk'; exact .inr ⟨(Nat.eq_of_beq_eq_true hb2).symm, hk'.symm⟩
      | false => rw [hb2] at hk'; cases hk'
  have hgq : nwGet [(q, ob), (m, .dead)] q = some ob := by show (bif Nat.beq q q then _ else _) = _; rw [Nat.beq_refl]; rfl
  have hgm : nwGet [(q, ob), (m, .dead)] m = some .dead := by show (bif Nat.beq q m then _ else bif Nat.beq m m then _ else _) = _; rw [nbeq hqm, Nat.beq_refl]; rfl
  have hlt := lt_of hF
  refine hs.upd hF hβ h1 h2 h3 h4 (fun k g hk hlk hg => h5 g.1 (hlt k g hlk hg) (fun e => ?_)) (fun g hg hk => h5 g hg (fun e => hk m b hm hb e.symm)) (fun k hk hb' => ?_) (fun k o hk => ?_) (fun k hk => (hget k _ hk).elim (fun h => (by rw [← h.2] at hl; cases hl)) (fun h => ⟨b, by rw [h.1]; exact hβ _ _ hb⟩)) (fun k o g hk hlo hg => ⟨fun k' b' hk' hl' e e2 => ?_, fun k' o' b' hk' hlo' _ _ => ?_⟩) (fun k o g hk hlo hg => ?_) hd (hv β' hβ hβ') rn [q]
  · have := hF.i k m g b hlk hm hg hb e
    rw [this, hgm] at hk; cases hk
  · show (if k = q then _ else β k) = none
    rw [if_neg (fun e => by rw [e, hgq] at hk; cases hk)]; exact hb'
  · rcases hget k o hk with ⟨rfl, rfl⟩ | ⟨rfl, rfl⟩
    · exact ⟨fun e => (by rw [e] at hl; cases hl), hob β' hβ hβ'⟩
    · exact ⟨fun e => (by cases e), trivial⟩
  · rcases hget k o hk with ⟨rfl, rfl⟩ | ⟨rfl, rfl⟩
    · rw [hβ'] at hg; injection hg with hg
      subst hg
      rcases hg0 with h | h
      · have := hF.i k' m b' b hl' hm e hb (e2.trans h)
        rw [this, hgm] at hk'; cases hk'
      · have := hlt k' b' hl' e; omega
    · cases hlo
  · rcases hget k o hk with ⟨rfl, rfl⟩ | ⟨rfl, rfl⟩
    · rcases hget k' o' hk' with ⟨rfl, rfl⟩ | ⟨rfl, rfl⟩
      · rfl
      · cases hlo'
    · cases hlo
  · rcases hget k o hk with ⟨rfl, rfl⟩ | ⟨rfl, rfl⟩
    · rw [hβ'] at hg; injection hg with hg
      subst hg
      rcases hg0 with h | h
      · rw [h]; exact hF.b m b hm hb
      · rw [h]; exact .inr hs.k.size
    · cases hlo
end
end Go.Proofs.Ytobgdemhadlgnaa.Ev

namespace Go.Proofs.Ytobgdemhadlgnaa.Ev
open Go Go.RowKit
section
variable {P : Program} {N : Nat} {w0 : World} {D : Dom}
/-- an operation with its guard -/
def OpG (P : Program) (N : Nat) (w0 : World) (D : Dom) (ops : Array Oper) (o : Oper) (σ : AS) (e : Eff) : Prop :=
  match o.guard with
  | none => OpS P N w0 D o σ e
  | some (j, want) => ∃ d u, ((ops[j]?).bind (·.dst)) = some d ∧ d ≠ DT ∧ σ.t d = .v u ∧ ((u = .bool want ∧ OpS P N w0 D o σ e) ∨ ((∀ b, u = .bool b → b ≠ want) ∧ dOk o N = true ∧ e = ⟨o.dst.map fun d => (d, .v undef), [], [], []⟩))
def tmpsG (ops : Array Oper) (o : Oper) : List Tmp := tmpsOf o ++ (match o.guard with | some (j, _) => ((ops[j]?).bind (·.dst)).toList | none => [])
/-- what is read of the state, guard and all -/
structure Eff.okG (e : Eff) (ops : Array Oper) (o : Oper) (σ σ' : AS) : Prop where
  t : ∀ t ∈ tmpsG ops o, σ'.t t = σ.t t
  n : ∀ m ∈ e.rn, σ'.n m = σ.n m
  f : ∀ m ∈ e.fr, σ'.n m = .no
theorem opG_run (r : Option Nat) {ops : Array Oper} {i : Nat} {o : Oper} {σ σ' : AS} {e : Eff} (ho : ops[i]? = some o) (h : OpG P N w0 D ops o σ e) (hk : e.okG ops o σ σ') {a : Act} {w : World} (hs : St N w0 D σ' a w)
    {K : Act → World → Prop} {Q : Exit → Act → World → Prop} (hK : ∀ a' w', St N w0 D (e.ap σ') a' w' → K a' w') : wpOpIn (FnR r) 0 P ops Q i K a w := by
  unfold wpOpIn
  rw [ho]
  simp only
  have hok : e.ok o σ σ' := ⟨fun t ht => hk.t t (List.mem_append.2 (.inl ht)), hk.n, hk.f⟩
  unfold OpG at h
  cases hg : o.guard with
  | none =>
    rw [hg] at h
    have hw : Region.wanted o (yielded ops a.tmps) = true := by simp [Region.wanted, hg]
    rw [if_pos hw]
    exact owp_in r (h σ' hok a w hs K Q hK)
  | some g =>
    obtain ⟨j, want⟩ := g
    rw [hg] at h
    obtain ⟨d, u, h1, hdt, h2, h3⟩ := h
    have hd : σ'.t d = .v u := by
      rw [hk.t d (by unfold tmpsG; rw [hg]; exact List.mem_append.2 (.inr (by simp [h1]))), h2]
    obtain ⟨β, hF⟩ := hs.f
    have hv : a.tmps.getD d undef = u := by
      have := hF.t d
      rw [hd, atA_tmp hdt] at this
      exact rx_v.1 this
    have hy : ∀ b, yielded ops a.tmps j = some b ↔ u = .bool b := by
      intro b
      unfold yielded
      rw [h1]
      simp only [Option.bind_some]
      rw [Array.getD_eq_getD_getElem?] at hv
      cases hq : a.tmps[d]? with
      | none => rw [hq] at hv; subst hv; simp [undef]
      | some x => rw [hq] at hv; simp at hv; subst hv; cases x <;> simp
    rcases h3 with ⟨h3, h4⟩ | ⟨h3, hdk, rfl⟩
    · rw [if_pos (by simp [Region.wanted, hg, (hy want).2 h3])]
      exact owp_in r (h4 σ' hok a w hs K Q hK)
    · rw [if_neg (by
        simp only [Region.wanted, hg, beq_iff_eq]
        exact fun h => h3 want ((hy want).1 h) rfl)]
      refine ⟨fun _ _ => trivial, ?_⟩
      exact hK _ _ (hs.upd hF (Sub.refl β) rfl rfl rfl (Nat.le_refl _) (fun _ _ _ _ _ => rfl) (fun _ _ _ => rfl) (fun _ _ h => h) (fun m o h => by cases h) (fun m h => by cases h) (fun m o b h => by cases h) (fun m o b h => by cases h) hdk (rx_v.2 rfl) [] [])
/-! ### in the text's order -/
structure RG (P : Program) (r : Option Nat) (N : Nat) (w0 : World) (D : Dom) (ops : Array Oper) (k : Nat) (σ : AS) (R : AS → Prop) : Prop where
  go : ∀ a w, St N w0 D σ a w → ∀ Q, (∀ σ' a' w', R σ' → St N w0 D σ' a' w' → Q Exit.normal a' w') → wpOpsIn (FnR r) 0 P ops Q ((List.range (ops.size - k)).map (· + k)) a w
theorem rg_done {r : Option Nat} {ops : Array Oper} {k : Nat} {σ : AS} {R : AS → Prop} (hk : k = ops.size) (h : R σ) : RG P r N w0 D ops k σ R := by
  refine ⟨fun a w hs Q hQ => ?_⟩
  subst hk
  simp only [Nat.sub_self, List.range_zero, List.map_nil, wpOpsIn]
  exact hQ _ _ _ h hs
theorem rg_step {r : Option Nat} {ops : Array Oper} {k : Nat} {o : Oper} {σ : AS} {e : Eff} {R : AS → Prop} (ho : ops[k]? = some o) (h : OpG P N w0 D ops o σ e) (hf : ∀ m ∈ e.fr, σ.n m = .no) (hr : RG P r N w0 D ops (k + 1) (e.ap σ) R) : RG P r N w0 D ops k σ R := by
  refine ⟨fun a w hs Q hQ => ?_⟩
  have hlt : k < ops.size := (Array.getElem?_eq_some_iff.1 ho).1
  have e1 : ((List.range (ops.size - k)).map (· + k)) = k :: ((List.range (ops.size - (k + 1))).map (· + (k + 1))) := by
    rw [show ops.size - k = (ops.size - (k + 1)) + 1 by omega, List.range_succ_eq_map]
    simp only [List.map_cons, Nat.zero_add, List.map_map, List.cons.injEq, true_and]
    apply List.map_congr_left
    intro x _
    show x + 1 + k = x + (k + 1)
    omega
  rw [e1, wpOpsIn_cons]
  exact opG_run r ho h ⟨fun _ _ => rfl, fun _ _ => rfl, hf⟩ hs (fun a' w' hs' => hr.go a' w' hs' Q hQ)
theorem rg_region {r : Option Nat} {ops : Array Oper} {id : Nat} {σ : AS} {R : AS → Prop} (h : RG P r N w0 D ops 0 σ R) {a : Act} {w : World} (hs : St N w0 D σ a w) {Q : Exit → Act → World → Prop} (hQ : ∀ σ' a' w', R σ' → St N w0 D σ' a' w' → Q Exit.normal a' w') :
    (Code.region id ops false).wpIn (FnR r) 0 P Q a w := by
  refine wpIn_region ?_
  have := h.go a w hs Q hQ
  simpa using this
/-! ### in a drawn order -/
/-- what an operation reads and writes, without the values -/
structure Sk where
  tw : Option Nat
  nw : List Nat
  rn : List Nat
  fr : List Nat
def Eff.sk (e : Eff) : Sk := ⟨e.tw.map (·.1), e.nw.map (·.1), e.rn, e.fr⟩
def disj (a b : List Nat) : Bool := a.all fun x => !b.contains x
/-- the second may run beside the first -/
def half (ops : Array Oper) (x y : Sk) (oy : Oper) : Bool :=
  (match x.tw with | some d => !(tmpsG ops oy).contains d && y.tw != some d | none => true) && disj x.nw y.nw && disj x.nw y.rn
def bfB (ops : Array Oper) : Nat → Nat → Nat → Bool
  | 0, _, _ => false
  | n + 1, i, j => match ops[j]? with
    | none => false
    | some o => o.after.any fun e => Region.binds .any e && (e.on == i || bfB ops n i e.on)
def upB' (ops : Array Oper) : Bool := (List.range ops.size).all fun j => match ops[j]? with
  | none => true
  | some o => o.after.all fun e => !Region.binds .any e || decide (e.on < j)
def sepB (ops : Array Oper) (sk : List Sk) : Bool :=
  upB' ops && (List.range ops.size).all fun j => (List.range j).all fun i =>
    match sk[i]?, sk[j]?, ops[i]?, ops[j]? with
      | some x, some y, some oi, some oj => disj y.fr x.nw && (bfB ops ops.size i j || (half ops x y oj && half ops y x oi && disj x.fr y.nw))
      | _, _, _, _ => false
def ovs (pl : Nat → Eff) (p : Nat → Bool) (σ : AS) : Nat → AS
  | 0 => σ
  | k + 1 => if p k then (pl k).ap (ovs pl p σ k) else ovs pl p σ k
def wT (e : Eff) (t : Nat) : Bool := e.tw.any fun x => Nat.beq x.1 t
def wN (e : Eff) (m : Nat) : Bool := (nwGet e.nw m).isSome
theorem ap_t_no {e : Eff} {σ : AS} {t : Nat} (h : wT e t = false) : (e.ap σ).t t = σ.t t := by
  unfold Eff.ap
  simp only
  unfold wT at h
  cases he : e.tw with
  | none => rfl
  | some x => rw [he] at h; simp only [Option.any_some] at h; simp only [h, cond_false]
theorem ap_t_yes {e : Eff} {σ σ' : AS} {t : Nat} (h : wT e t = true) : (e.ap σ).t t = (e.ap σ').t t := by
  unfold Eff.ap
  simp only
  unfold wT at h
  cases he : e.tw with
  | none => rw [he] at h; simp at h
  | some x => rw [he] at h; simp only [Option.any_some] at h; simp only [h, cond_true]
theorem ap_n_no {e : Eff} {σ : AS} {m : Nat} (h : wN e m = false) : (e.ap σ).n m = σ.n m := by
  unfold Eff.ap
  simp only
  unfold wN at h
  cases he : nwGet e.nw m with
  | none => rfl
  | some x => rw [he] at h; simp at h
theorem ap_n_yes {e : Eff} {σ σ' : AS} {m : Nat} (h : wN e m = true) : (e.ap σ).n m = (e.ap σ').n m := by
  unfold Eff.ap
  simp only
  unfold wN at h
  cases he : nwGet e.nw m with
  | none => rw [he] at h; simp at h
  | some x => rfl
theorem ovs_t {pl : Nat → Eff} {p q : Nat → Bool} {σ : AS} {t : Nat} : ∀ n, (∀ k, k < n → wT (pl k) t = true → p k = q k) → (ovs pl p σ n).t t = (ovs pl q σ n).t t := by
  intro n
  induction n with
  | zero => intro _; rfl
  | succ n ih =>
    intro h
    have ih' := ih (fun k hk => h k (by omega))
    simp only [ovs]
    cases hw : wT (pl n) t with
    | false =>
      have e1 : ∀ r : Nat → Bool, (if r n then (pl n).ap (ovs pl r σ n) else ovs pl r σ n).t t = (ovs pl r σ n).t t := by
        intro r
        split
        · exact ap_t_no hw
        · rfl
      rw [e1 p, e1 q, ih']
    | true =>
      rw [h n (by omega) hw]
      split
      · exact ap_t_yes hw
      · exact ih'
theorem ovs_n {pl : Nat → Eff} {p q : Nat → Bool} {σ : AS} {m : Nat} : ∀ n, (∀ k, k < n → wN (pl k) m = true → p k = q k) → (ovs pl p σ n).n m = (ovs pl q σ n).n m := by
  intro n
  induction n with
  | zero => intro _; rfl
  | succ n ih =>
    intro h
    have ih' := ih (fun k hk => h k (by omega))
    simp only [ovs]
    cases hw : wN (pl n) m with
    | false =>
      have e1 : ∀ r : Nat → Bool, (if r n then (pl n).ap (ovs pl r σ n) else ovs pl r σ n).n m = (ovs pl r σ n).n m := by
        intro r
        split
        · exact ap_n_no hw
        · rfl
      rw [e1 p, e1 q, ih']
    | true =>
      rw [h n (by omega) hw]
      split
      · exact ap_n_yes hw
      · exact ih'
/-- one more operation, behind which none writes what it writes -/
theorem ovs_ins {pl : Nat → Eff} {p q : Nat → Bool} {σ : AS} {i n : Nat} (hi : i < n) (hp : p i = false) (hq : ∀ k, q k = (p k || k == i))
    (hT : ∀ k t, i < k → k < n → p k = true → wT (pl i) t = true → wT (pl k) t = false) (hN : ∀ k m, i < k → k < n → p k = true → wN (pl i) m = true → wN (pl k) m = false) :
    ovs pl q σ n = (pl i).ap (ovs pl p σ n) := by
  have key : ∀ n, i < n → (∀ k t, i < k → k < n → p k = true → wT (pl i) t = true → wT (pl k) t = false) → (∀ k m, i < k → k < n → p k = true → wN (pl i) m = true → wN (pl k) m = false) →
      (∀ t, (ovs pl q σ n).t t = ((pl i).ap (ovs pl p σ n)).t t) ∧ (∀ m, (ovs pl q σ n).n m = ((pl i).ap (ovs pl p σ n)).n m) := by
    intro n
    induction n with
    | zero => intro h; omega
    | succ n ih =>
      intro hlt hT hN
      by_cases hin : i = n
      · subst hin
        have hqi : q i = true := by rw [hq]; simp
        simp only [ovs, hqi, hp, if_true, Bool.false_eq_true, if_false]
        have e1 : ∀ k, k < i → p k = q k := fun k hk => by rw [hq]; have : (k == i) = false := by simp; omega
                                                           rw [this, Bool.or_false]
        constructor
        · intro t
          cases hw : wT (pl i) t with
          | false => rw [ap_t_no hw, ap_t_no hw]; exact (ovs_t i (fun k hk _ => e1 k hk)).symm
          | true => exact ap_t_yes hw
        · intro m
          cases hw : wN (pl i) m with
          | false => rw [ap_n_no hw, ap_n_no hw]; exact (ovs_n i (fun k hk _ => e1 k hk)).symm
          | true => exact ap_n_yes hw
      · obtain ⟨h1, h2⟩ := ih (by omega) (fun k t a b => hT k t a (by omega)) (fun k m a b => hN k m a (by omega))
        have hqn : q n = p n := by rw [hq]; have : (n == i) = false := by simp; omega
                                   rw [this, Bool.or_false]
        simp only [ovs, hqn]
        cases hpn : p n with
        | false => simp only [Bool.false_eq_true, if_false]; exact ⟨h1, h2⟩
        | true =>
          simp only [if_true]
          constructor
          · intro t
            cases hw : wT (pl i) t with
            | true => rw [ap_t_no (hT n t (by omega) (by omega) hpn hw), h1 t]; exact ap_t_yes hw
            | false =>
              rw [ap_t_no hw]
              cases hwn : wT (pl n) t with
              | true => exact ap_t_yes hwn
              | false => rw [ap_t_no hwn, ap_t_no hwn, h1 t, ap_t_no hw]
          · intro m
            cases hw : wN (pl i) m with
            | true => rw [ap_n_no (hN n m (by omega) (by omega) hpn hw), h2 m]; exact ap_n_yes hw
            | false =>
              rw [ap_n_no hw]
              cases hwn : wN (pl n) m with
              | true => exact ap_n_yes hwn
              | false => rw [ap_n_no hwn, ap_n_no hwn, h2 m, ap_n_no hw]
  obtain ⟨h1, h2⟩ := key n hi hT hN
  generalize ovs pl q σ n = x at *
  generalize (pl i).ap (ovs pl p σ n) = y at *
  obtain ⟨xt, xn⟩ := x
  obtain ⟨yt, yn⟩ := y
  have e1 : xt = yt := funext h1
  have e2 : xn = yn := funext h2
  rw [e1, e2]

theorem disj_spec {a b : List Nat} (h : disj a b = true) {x : Nat} (ha : x ∈ a) (hb : x ∈ b) : False := by
  unfold disj at h
  have := List.all_eq_true.1 h x ha
  simp [hb] at this
theorem wT_sk {e : Eff} {t : Nat} (h : wT e t = true) : e.sk.tw = some t := by
  unfold wT at h
  unfold Eff.sk
  cases he : e.tw with
  | none => rw [he] at h; simp at h
  | some x => rw [he] at h; simp only [Option.any_some] at h; simp [Nat.eq_of_beq_eq_true h]
theorem nwGet_mem {l : List (Nat × XO)} {m : Nat} (h : (nwGet l m).isSome = true) : m ∈ l.map (·.1) := by
  induction l with
  | nil => simp [nwGet] at h
  | cons x l ih =>
    unfold nwGet at h
    cases hb : Nat.beq x.1 m with
    | true => simp [Nat.eq_of_beq_eq_true hb]
    | false => rw [hb] at h; simp only [cond_false] at h; simp [ih h]
theorem wN_sk {e : Eff} {m : Nat} (h : wN e m = true) : m ∈ e.sk.nw := nwGet_mem h
theorem half_t {ops : Array Oper} {x y : Sk} {oy : Oper} (h : half ops x y oy = true) {t : Nat} (hx : x.tw = some t) : t ∉ tmpsG ops oy ∧ y.tw ≠ some t := by
  unfold half at h
  rw [hx] at h
  simp only [Bool.and_eq_true, Bool.not_eq_true', bne_iff_ne] at h
  obtain ⟨⟨⟨h1, h2⟩, _⟩, _⟩ := h
  exact ⟨fun hm => by simp [hm] at h1, h2⟩
theorem half_n {ops : Array Oper} {x y : Sk} {oy : Oper} (h : half ops x y oy = true) {m : Nat} (hx : m ∈ x.nw) : m ∉ y.nw ∧ m ∉ y.rn := by
  unfold half at h
  simp only [Bool.and_eq_true] at h
  obtain ⟨⟨_, h3⟩, h4⟩ := h
  exact ⟨fun hm => disj_spec h3 hx hm, fun hm => disj_spec h4 hx hm⟩
/-- whoever is listed has all listed that come before -/
def Closed (ops : Array Oper) (p : Nat → Bool) : Prop := ∀ j o, ops[j]? = some o → p j = true → ∀ e ∈ o.after, Region.binds .any e = true → p e.on = true
theorem bf_closed {ops : Array Oper} {p : Nat → Bool} (hc : Closed ops p) : ∀ n i j o, ops[j]? = some o → (∀ e ∈ o.after, Region.binds .any e = true → p e.on = true) → bfB ops n i j = true → p i = true := by
  intro n
  induction n with
  | zero => intro i j o _ _ h; simp [bfB] at h
  | succ n ih =>
    intro i j o ho hd h
    simp only [bfB, ho] at h
    obtain ⟨e, he, hb⟩ := Array.any_eq_true'.1 h
    simp only [Bool.and_eq_true, Bool.or_eq_true, beq_iff_eq] at hb
    obtain ⟨h1, h2⟩ := hb
    have hp := hd e he h1
    rcases h2 with h2 | h2
    · rw [← h2]; exact hp
    · cases hoe : ops[e.on]? with
      | none =>
        cases n with
        | zero => simp [bfB] at h2
        | succ n => simp [bfB, hoe] at h2
      | some o2 => exact ih i e.on o2 hoe (hc e.on o2 hoe hp) h2
structure Plan (P : Program) (N : Nat) (w0 : World) (D : Dom) (ops : Array Oper) (σ : AS) (pl : Nat → Eff) : Prop where
  op : ∀ i o, ops[i]? = some o → OpG P N w0 D ops o (ovs pl (fun _ => true) σ i) (pl i)
  fr : ∀ i, i < ops.size → ∀ m ∈ (pl i).fr, σ.n m = .no
  up : upB' ops = true
  sep : ∀ i j oi oj, i < j → ops[i]? = some oi → ops[j]? = some oj → disj (pl j).sk.fr (pl i).sk.nw = true ∧
    (bfB ops ops.size i j = true ∨ (half ops (pl i).sk (pl j).sk oj = true ∧ half ops (pl j).sk (pl i).sk oi = true ∧ disj (pl i).sk.fr (pl j).sk.nw = true))
theorem ovs_pre {pl : Nat → Eff} {σ : AS} {i : Nat} : ∀ n, i ≤ n → ovs pl (fun k => decide (k < i)) σ n = ovs pl (fun _ => true) σ i := by
  intro n
  induction n with
  | zero => intro h; have : i = 0 := by omega
            subst this; rfl
  | succ n ih =>
    intro h
    by_cases hi : i = n + 1
    · subst hi
      have : ∀ k, k ≤ n + 1 → ovs pl (fun k => decide (k < n + 1)) σ k = ovs pl (fun _ => true) σ k := by
        intro k
        induction k with
        | zero => intro _; rfl
        | succ k ihk => intro hk; simp only [ovs, ihk (by omega), if_true]; rw [if_pos (by simp; omega)]
      exact this _ (Nat.le_refl _)
    · simp only [ovs]
      rw [if_neg (by simp; omega)]
      exact ih (by omega)
theorem ovs_all {pl : Nat → Eff} {σ : AS} {p : Nat → Bool} : ∀ n, (∀ k, k < n → p k = true) → ovs pl p σ n = ovs pl (fun _ => true) σ n := by
  intro n
  induction n with
  | zero => intro _; rfl
  | succ n ih => intro h; simp only [ovs, ih (fun k hk => h k (by omega)), h n (by omega)]
def cnt (p : Nat → Bool) : Nat → Nat
  | 0 => 0
  | k + 1 => cnt p k + if p k then 0 else 1
theorem cnt_zero {p : Nat → Bool} : ∀ n, cnt p n = 0 → ∀ k, k < n → p k = true := by
  intro n
  induction n with
  | zero => intro _ k h; omega
  | succ n ih =>
    intro h k hk
    simp only [cnt] at h
    by_cases hkn : k = n
    · subst hkn
      cases hp : p k with
      | true => rfl
      | false => rw [hp] at h; simp at h
    · exact ih (by omega) k (by omega)
theorem cnt_pos {p : Nat → Bool} : ∀ n, cnt p n ≠ 0 → ∃ k, k < n ∧ p k = false := by
  intro n
  induction n with
  | zero => intro h; simp [cnt] at h
  | succ n ih =>
    intro h
    cases hp : p n with
    | false => exact ⟨n, by omega, hp⟩
    | true =>
      simp only [cnt, hp, if_true, Nat.add_zero] at h
      obtain ⟨k, hk, h2⟩ := ih h
      exact ⟨k, by omega, h2⟩
theorem cnt_eq {p q : Nat → Bool} : ∀ n, (∀ k, k < n → p k = q k) → cnt p n = cnt q n := by
  intro n
  induction n with
  | zero => intro _; rfl
  | succ n ih => intro h; simp only [cnt, ih (fun k hk => h k (by omega)), h n (by omega)]
theorem cnt_ins {p q : Nat → Bool} {i : Nat} (hp : p i = false) (hq : ∀ k, q k = (p k || k == i)) : ∀ n, i < n → cnt q n + 1 = cnt p n := by
  intro n
  induction n with
  | zero => intro h; omega
  | succ n ih =>
    intro h
    by_cases hin : i = n
    · subst hin
      have : cnt q i = cnt p i := cnt_eq i (fun k hk => by
        have hki : (k == i) = false := by simp; omega
        rw [hq, hki, Bool.or_false])
      simp only [cnt, this, hp, hq, beq_self_eq_true, Bool.or_true, if_true, Bool.false_eq_true, if_false]
    · have := ih (by omega)
      have hqn : q n = p n := by rw [hq]; have : (n == i) = false := by simp; omega
                                 rw [this, Bool.or_false]
      simp only [cnt, hqn]
      omega
theorem cnt_false : ∀ n, cnt (fun _ => false) n = n := by
  intro n
  induction n with
  | zero => rfl
  | succ n ih => simp only [cnt, ih, Bool.false_eq_true, if_false]
theorem up_spec {ops : Array Oper} (h : upB' ops = true) {j : Nat} {o : Oper} (ho : ops[j]? = some o) : ∀ e ∈ o.after, Region.binds .any e = true → e.on < j := by
  intro e he hb
  have hlt : j < ops.size := (Array.getElem?_eq_some_iff.1 ho).1
  unfold upB' at h
  have h1 := List.all_eq_true.1 h j (by simpa using hlt)
  simp only [ho] at h1
  have h2 := Array.all_eq_true_iff_forall_mem.1 h1 e he
  simpa [hb] using h2
/-- in whatever order -/
theorem plan_any (r : Option Nat) {ops : Array Oper} {σ : AS} {pl : Nat → Eff} (hp : Plan P N w0 D ops σ pl) {Q : Exit → Act → World → Prop} (hQ : ∀ a w, St N w0 D (ovs pl (fun _ => true) σ ops.size) a w → Q Exit.normal a w) :
    ∀ fuel (listed : Array Bool), listed.size = ops.size → cnt (fun k => listed.getD k false) ops.size = fuel → Closed ops (fun k => listed.getD k false) → ∀ a w, St N w0 D (ovs pl (fun k => listed.getD k false) σ ops.size) a w → wpAnyIn (FnR r) 0 P .any ops Q fuel listed a w := by
  intro fuel
  induction fuel with
  | zero =>
    intro listed hsz hc hcl a w hs
    have hall := cnt_zero _ hc
    refine ⟨?_, hQ a w (by rw [ovs_all ops.size hall] at hs; exact hs)⟩
    rw [List.eq_nil_iff_forall_not_mem]
    intro j hj
    obtain ⟨h1, o, ho, _⟩ := mem_ready.1 hj
    have hlt : j < ops.size := (Array.getElem?_eq_some_iff.1 ho).1
    have := hall j hlt
    rw [Array.getD_eq_getD_getElem?, Array.getElem?_eq_getElem (by omega)] at h1 this
    simp at h1 this
    rw [h1] at this
    cases this
  | succ fuel ih =>
    intro listed hsz hc hcl a w hs
    have hgd : ∀ k, k < ops.size → listed.getD k true = listed.getD k false := fun k hk => by
      rw [Array.getD_eq_getD_getElem?, Array.getD_eq_getD_getElem?, Array.getElem?_eq_getElem (by omega)]; rfl
    refine ⟨fun hnil => ?_, fun i hi => ?_⟩
    · exfalso
      have hex : ∀ k, k < ops.size → listed.getD k false = false → ∃ j, j ∈ Region.ready .any ops listed := by
        intro k
        induction k using Nat.strongRecOn with
        | _ k ihk =>
          intro hk hkf
          obtain ⟨o, ho⟩ : ∃ o, ops[k]? = some o := ⟨_, Array.getElem?_eq_getElem hk⟩
          by_cases hd : ∀ e ∈ o.after, Region.binds .any e = true → listed.getD e.on false = true
          · exact ⟨k, mem_ready.2 ⟨by rw [hgd k hk]; exact hkf, o, ho, hd⟩⟩
          · obtain ⟨e, he, hb, hn⟩ : ∃ e, e ∈ o.after ∧ Region.binds .any e = true ∧ ¬ listed.getD e.on false = true := by
              refine Classical.byContradiction fun hne => hd fun e he hb => Classical.byContradiction fun hn => hne ⟨e, he, hb, hn⟩
            have hlt := up_spec hp.up ho e he hb
            exact ihk e.on hlt (by omega) (by simpa using hn)
      obtain ⟨k, hk, hkf⟩ := cnt_pos ops.size (by rw [hc]; omega)
      obtain ⟨j, hj⟩ := hex k hk hkf
      rw [hnil] at hj
      cases hj
    · obtain ⟨h1, o, ho, hdep⟩ := mem_ready.1 hi
      have hlt : i < ops.size := (Array.getElem?_eq_some_iff.1 ho).1
      have hpi : listed.getD i false = false := by rw [← hgd i hlt]; exact h1
      have hget : ∀ k, k < ops.size → ∃ ok, ops[k]? = some ok := fun k hk => ⟨_, Array.getElem?_eq_getElem hk⟩
      -- who is bound before i is listed; who is bound behind i is not
      have hbef : ∀ k, bfB ops ops.size k i = true → listed.getD k false = true := fun k hb => bf_closed hcl _ k i o ho hdep hb
      have haft : ∀ k, k < ops.size → bfB ops ops.size i k = true → listed.getD k false = false := fun k hk hb => by
        cases hpk : listed.getD k false with
        | false => rfl
        | true =>
          obtain ⟨ok, hok⟩ := hget k hk
          have := bf_closed hcl _ i k ok hok (hcl k ok hok hpk) hb
          rw [hpi] at this
          cases this
      have hq : ∀ k, (listed.setIfInBounds i true).getD k false = (listed.getD k false || k == i) := by
        intro k
        by_cases hki : k = i
        · subst hki
          rw [Array.getD_eq_getD_getElem?, Array.getElem?_setIfInBounds_self_of_lt (by omega)]
          simp
        · rw [getD_set_ne false (Ne.symm hki)]
          have : (k == i) = false := by simpa using hki
          rw [this, Bool.or_false]
      have hpre := ovs_pre (pl := pl) (σ := σ) (i := i) ops.size (by omega)
      have hok : (pl i).okG ops o (ovs pl (fun _ => true) σ i) (ovs pl (fun k => listed.getD k false) σ ops.size) := by
        rw [← hpre]
        refine ⟨fun t ht => ?_, fun m hm => ?_, fun m hm => ?_⟩
        · refine ovs_t ops.size (fun k hk hw => ?_)
          rcases Nat.lt_trichotomy k i with h | h | h
          · obtain ⟨ok, hok⟩ := hget k hk
            rw [decide_eq_true h]
            rcases (hp.sep k i ok o h hok ho).2 with hb | ⟨hb, _⟩
            · exact hbef k hb
            · exact absurd ht (half_t hb (wT_sk hw)).1
          · subst h; simp [hpi]
          · obtain ⟨ok, hok⟩ := hget k hk
            rw [decide_eq_false (by omega)]
            rcases (hp.sep i k o ok h ho hok).2 with hb | ⟨_, hb, _⟩
            · exact haft k hk hb
            · exact absurd ht (half_t hb (wT_sk hw)).1
        · refine ovs_n ops.size (fun k hk hw => ?_)
          rcases Nat.lt_trichotomy k i with h | h | h
          · obtain ⟨ok, hok⟩ := hget k hk
            rw [decide_eq_true h]
            rcases (hp.sep k i ok o h hok ho).2 with hb | ⟨hb, _⟩
            · exact hbef k hb
            · exact absurd hm (half_n hb (wN_sk hw)).2
          · subst h; simp [hpi]
          · obtain ⟨ok, hok⟩ := hget k hk
            rw [decide_eq_false (by omega)]
            rcases (hp.sep i k o ok h ho hok).2 with hb | ⟨_, hb, _⟩
            · exact haft k hk hb
            · exact absurd hm (half_n hb (wN_sk hw)).2
        · have hf := hp.fr i hlt m hm
          have hno : ∀ k, k < ops.size → listed.getD k false = true → wN (pl k) m = false := by
            intro k hk hpk
            have hki : k ≠ i := fun e => by rw [e, hpi] at hpk; cases hpk
            obtain ⟨ok, hok⟩ := hget k hk
            have h2 : disj (pl i).sk.fr (pl k).sk.nw = true := by
              rcases Nat.lt_or_gt_of_ne hki with h | h
              · exact (hp.sep k i ok o h hok ho).1
              · rcases (hp.sep i k o ok h ho hok).2 with hb | ⟨_, _, hb1⟩
                · rw [haft k hk hb] at hpk; cases hpk
                · exact hb1
            cases hw : wN (pl k) m with
            | false => rfl
            | true => exact (disj_spec h2 hm (wN_sk hw)).elim
          have : (ovs pl (fun k => listed.getD k false) σ ops.size).n m = (ovs pl (fun _ => false) σ ops.size).n m := ovs_n ops.size (fun k hk hw => by
            cases hpk : listed.getD k false with
            | false => rfl
            | true => rw [hno k hk hpk] at hw; cases hw)
          rw [this]
          have h0 : ∀ n, ovs pl (fun _ => false) σ n = σ := by
            intro n
            induction n with
            | zero => rfl
            | succ n ihn => simp only [ovs, Bool.false_eq_true, if_false, ihn]
          rw [h0]
          exact hf
      refine opG_run r ho (hp.op i o ho) hok hs (fun a' w' hs' => ?_)
      have hins := ovs_ins (pl := pl) (σ := σ) (p := fun k => listed.getD k false) (q := fun k => (listed.setIfInBounds i true).getD k false) hlt hpi hq
        (fun k t h1 h2 h3 h4 => by
          obtain ⟨ok, hok⟩ := hget k h2
          rcases (hp.sep i k o ok h1 ho hok).2 with hb | ⟨hb, _⟩
          · have := haft k h2 hb
            exact absurd (h3.symm.trans this) (by decide)
          · cases hw : wT (pl k) t with
            | false => rfl
            | true => exact absurd (wT_sk hw) (half_t hb (wT_sk h4)).2)
        (fun k m h1 h2 h3 h4 => by
          obtain ⟨ok, hok⟩ := hget k h2
          rcases (hp.sep i k o ok h1 ho hok).2 with hb | ⟨hb, _⟩
          · have := haft k h2 hb
            exact absurd (h3.symm.trans this) (by decide)
          · cases hw : wN (pl k) m with
            | false => rfl
            | true => exact absurd (wN_sk hw) (half_n hb (wN_sk h4)).1)
      refine ih _ (by simpa using hsz) ?_ ?_ a' w' (by rw [hins]; exact hs')
      · have := cnt_ins (p := fun k => listed.getD k false) (q := fun k => (listed.setIfInBounds i true).getD k false) hpi hq ops.size hlt
        omega
      · intro j oj hoj hj e he hb
        simp only [hq] at hj ⊢
        simp only [Bool.or_eq_true, beq_iff_eq] at hj ⊢
        rcases hj with hj | hj
        · exact .inl (hcl j oj hoj hj e he hb)
        · subst hj
          rw [ho] at hoj
          injection hoj with hoj
          subst hoj
          exact .inl (hdep e he hb)
theorem ovs_congr {pl pl' : Nat → Eff} {p : Nat → Bool} {σ : AS} : ∀ n, (∀ k, k < n → pl k = pl' k) → ovs pl p σ n = ovs pl' p σ n := by
  intro n
  induction n with
  | zero => intro _; rfl
  | succ n ih => intro h; simp only [ovs, ih (fun k hk => h k (by omega)), h n (by omega)]
/-- in whatever order, all told -/
theorem dr_any (r : Option Nat) {ops : Array Oper} {σ0 : AS} {sk : List Sk} {σ : AS} {R : AS → Prop} (pl : Nat → Eff) (h1 : ∀ i o, ops[i]? = some o → OpG P N w0 D ops o (ovs pl (fun _ => true) σ0 i) (pl i)) (h2 : (List.range ops.size).map (fun i => (pl i).sk) = sk) (h3 : ovs pl (fun _ => true) σ0 ops.size = σ)
    (hsep : sepB ops sk = true) (hfr : ∀ s ∈ sk, ∀ m ∈ s.fr, σ0.n m = .no) (h : R σ) {a : Act} {w : World} (hs : St N w0 D σ0 a w) {Q : Exit → Act → World → Prop} (hQ : ∀ σ' a' w', R σ' → St N w0 D σ' a' w' → Q Exit.normal a' w') : wpAnyIn (FnR r) 0 P .any ops Q ops.size (Array.replicate ops.size false) a w := by
  have hsk : ∀ i, i < ops.size → sk[i]? = some (pl i).sk := fun i hi => by rw [← h2]; simp [hi]
  simp only [sepB, Bool.and_eq_true] at hsep
  have hp : Plan P N w0 D ops σ0 pl := by
    refine ⟨h1, fun i hi m hm => hfr _ (List.mem_of_getElem? (hsk i hi)) m hm, hsep.1, fun i j oi oj hij hoi hoj => ?_⟩
    have hj : j < ops.size := (Array.getElem?_eq_some_iff.1 hoj).1
    have h4 := List.all_eq_true.1 (List.all_eq_true.1 hsep.2 j (by simpa using hj)) i (by simpa using hij)
    simp only [hsk i (by omega), hsk j hj, hoi, hoj, Bool.and_eq_true, Bool.or_eq_true] at h4
    obtain ⟨h5, h7⟩ := h4
    exact ⟨h5, h7.imp id (fun h => ⟨h.1.1, h.1.2, h.2⟩)⟩
  have e0 : (fun k => (Array.replicate ops.size false).getD k false) = fun _ => false := by
    funext k
    rw [Array.getD_eq_getD_getElem?, Array.getElem?_replicate]
    split <;> rfl
  refine plan_any r hp (fun a' w' hs' => hQ _ _ _ h (by rw [h3] at hs'; exact hs')) ops.size _ (by simp) ?_ ?_ a w ?_
  · rw [e0]; exact cnt_false _
  · intro j o ho hj
    simp only at hj
    rw [Array.getD_eq_getD_getElem?, Array.getElem?_replicate] at hj
    split at hj <;> cases hj
  · rw [e0]
    have h0 : ∀ n, ovs pl (fun _ => false) σ0 n = σ0 := by
      intro n
      induction n with
      | zero => rfl
      | succ n ihn => simp only [ovs, Bool.false_eq_true, if_false, ihn]
    rw [h0]
    exact hs
end
def mskO (all : List Nat) (o : Oper) : Nat := o.after.toList.foldl (fun a e => bif Region.binds .any e then Nat.lor a (Nat.lor (all.getD e.on 0) (Nat.shiftLeft 1 e.on)) else a) 0
def mskL (all : List Nat) : List Oper → List Nat → Bool
  | o :: os, m :: ms => Nat.beq m (mskO all o) && mskL all os ms
  | [], [] => true
  | _, _ => false
def prB (ops : Array Oper) (i : Nat) (x y : Sk × Oper × Nat) : Bool :=
  disj y.1.fr x.1.nw && (Nat.testBit y.2.2 i || (half ops x.1 y.1 y.2.1 && half ops y.1 x.1 x.2.1 && disj x.1.fr y.1.nw))
def sepR (ops : Array Oper) : Nat → List (Sk × Oper × Nat) → Bool
  | _, [] => true
  | i, x :: r => (r.all fun y => prB ops i x y) && sepR ops (i + 1) r
def zip3 : List Sk → List Oper → List Nat → List (Sk × Oper × Nat)
  | a :: as, b :: bs, c :: cs => (a, b, c) :: zip3 as bs cs
  | _, _, _ => []
def upL : Nat → List Oper → Bool
  | _, [] => true
  | j, o :: os => (o.after.toList.all fun e => !Region.binds .any e || Nat.blt e.on j) && upL (j + 1) os
def sepM (ops : Array Oper) (sk : List Sk) (ms : List Nat) : Bool := upL 0 ops.toList && mskL ms ops.toList ms && Nat.beq sk.length ms.length && sepR ops 0 (zip3 sk ops.toList ms)
theorem zip3_get : ∀ (as : List Sk) (bs : List Oper) (cs : List Nat) (i : Nat) (a : Sk) (b : Oper) (c : Nat), as[i]? = some a → bs[i]? = some b → cs[i]? = some c → (zip3 as bs cs)[i]? = some (a, b, c)
  | a' :: as, b' :: bs, c' :: cs, 0, a, b, c, h1, h2, h3 => by simp at h1 h2 h3; subst h1 h2 h3; rfl
  | a' :: as, b' :: bs, c' :: cs, i + 1, a, b, c, h1, h2, h3 => by simp at h1 h2 h3; simpa [zip3] using zip3_get as bs cs i a b c h1 h2 h3
  | [], _, _, _, _, _, _, h1, _, _ => by simp at h1
  | _ :: _, [], _, _, _, _, _, _, h2, _ => by simp at h2
  | _ :: _, _ :: _, [], _, _, _, _, _, _, h3 => by simp at h3
theorem sepR_get {ops : Array Oper} : ∀ (l : List (Sk × Oper × Nat)) (k i j : Nat) (x y : Sk × Oper × Nat), sepR ops k l = true → i < j → l[i]? = some x → l[j]? = some y → prB ops (k + i) x y = true
  | [], _, _, _, _, _, _, _, h, _ => by simp at h
  | z :: l, k, i, j, x, y, h, hij, hx, hy => by
    simp only [sepR, Bool.and_eq_true] at h
    cases j with
    | zero => omega
    | succ j =>
      simp at hy
      cases i with
      | zero =>
        simp at hx; subst hx
        exact List.all_eq_true.1 h.1 y (List.mem_of_getElem? hy)
      | succ i =>
        simp at hx
        have := sepR_get l (k + 1) i j x y h.2 (by omega) hx hy
        rwa [show k + 1 + i = k + (i + 1) by omega] at this
theorem mskL_get {all : List Nat} : ∀ (os : List Oper) (ms : List Nat) (j : Nat) (o : Oper), mskL all os ms = true → os[j]? = some o → ms[j]? = some (mskO all o)
  | o' :: os, m :: ms, 0, o, h, ho => by
    simp only [mskL, Bool.and_eq_true] at h
    simp at ho; subst ho
    simp [Nat.eq_of_beq_eq_true h.1]
  | o' :: os, m :: ms, j + 1, o, h, ho => by
    simp only [mskL, Bool.and_eq_true] at h
    simp at ho
    simpa using mskL_get os ms j o h.2 ho
  | [], _, _, _, _, ho => by simp at ho
  | _ :: _, [], _, _, h, _ => by simp [mskL] at h
theorem upL_get : ∀ (os : List Oper) (k j : Nat) (o : Oper), upL k os = true → os[j]? = some o → ∀ e ∈ o.after.toList, Region.binds .any e = true → e.on < k + j
  | o' :: os, k, 0, o, h, ho => fun e he hb => by
    simp only [upL, Bool.and_eq_true] at h
    simp at ho; subst ho
    have := List.all_eq_true.1 h.1 e he
    simp only [hb, Bool.not_true, Bool.false_or] at this
    exact Nat.lt_of_succ_le (Nat.le_of_ble_eq_true this)
  | o' :: os, k, j + 1, o, h, ho => fun e he hb => by
    simp only [upL, Bool.and_eq_true] at h
    simp at ho
    have := upL_get os (k + 1) j o h.2 ho e he hb
    omega
  | [], _, _, _, _, ho => by simp at ho
theorem fold_bit {all : List Nat} {i : Nat} : ∀ (l : List Edge) (a : Nat), Nat.testBit (l.foldl (fun a e => bif Region.binds .any e then Nat.lor a (Nat.lor (all.getD e.on 0) (Nat.shiftLeft 1 e.on)) else a) a) i = true →
    Nat.testBit a i = true ∨ ∃ e ∈ l, Region.binds .any e = true ∧ (e.on = i ∨ Nat.testBit (all.getD e.on 0) i = true)
  | [], a, h => .inl h
  | e :: l, a, h => by
    simp only [List.foldl_cons] at h
    rcases fold_bit l _ h with h1 | ⟨e', h1, h2⟩
    · cases hb : Region.binds .any e with
      | false => rw [hb] at h1; exact .inl h1
      | true =>
        rw [hb, cond_true] at h1
        have h1' : Nat.testBit (a ||| (all.getD e.on 0 ||| 1 <<< e.on)) i = true := h1
        rw [Nat.testBit_or, Nat.testBit_or, Nat.testBit_shiftLeft, Bool.or_eq_true, Bool.or_eq_true] at h1'
        rcases h1' with h | h | h
        · exact .inl h
        · exact .inr ⟨e, by simp, hb, .inr h⟩
        · refine .inr ⟨e, by simp, hb, .inl ?_⟩
          simp only [Bool.and_eq_true, decide_eq_true_eq] at h
          obtain ⟨g1, g2⟩ := h
          have g3 : i - e.on = 0 := by
            rcases Nat.eq_zero_or_pos (i - e.on) with g | g
            · exact g
            · exfalso
              rw [Nat.testBit_one_eq_true_iff_self_eq_zero] at g2
              omega
          omega
    · exact .inr ⟨e', by simp [h1], h2⟩
theorem bf_of {ops : Array Oper} {ms : List Nat} (hu : upL 0 ops.toList = true) (hm : mskL ms ops.toList ms = true) : ∀ (n j i : Nat), j < n → j < ops.size → Nat.testBit (ms.getD j 0) i = true → bfB ops n i j = true
  | 0, j, i, h, _, _ => by omega
  | n + 1, j, i, h, hj, hb => by
    have ho : ops.toList[j]? = some (ops[j]'hj) := by simp [hj]
    have h1 := mskL_get ops.toList ms j _ hm ho
    have h2 : ms.getD j 0 = mskO ms (ops[j]'hj) := by rw [List.getD_eq_getElem?_getD, h1]; rfl
    rw [h2] at hb
    rcases fold_bit _ 0 hb with h3 | ⟨e, he, hbd, h3⟩
    · simp at h3
    · have hlt := upL_get ops.toList 0 j _ hu ho e he hbd
      simp only [bfB, Array.getElem?_eq_getElem hj]
      rw [Array.any_eq_true']
      refine ⟨e, by simpa using he, ?_⟩
      rw [hbd, Bool.true_and, Bool.or_eq_true]
      rcases h3 with h3 | h3
      · exact .inl (by simp [h3])
      · exact .inr (bf_of hu hm n e.on i (by omega) (by omega) h3)
theorem sepB_of {ops : Array Oper} {sk : List Sk} (ms : List Nat) (h : sepM ops sk ms = true) : sepB ops sk = true := by
  simp only [sepM, Bool.and_eq_true] at h
  obtain ⟨⟨⟨hu, hm⟩, hl⟩, hr⟩ := h
  simp only [sepB, Bool.and_eq_true]
  constructor
  · unfold upB'
    rw [List.all_eq_true]
    intro j hj
    have hj' : j < ops.size := by simpa using hj
    simp only [Array.getElem?_eq_getElem hj']
    rw [Array.all_eq_true']
    intro e he
    cases hb : Region.binds .any e with
    | false => rfl
    | true =>
      have := upL_get ops.toList 0 j (ops[j]'hj') hu (by simp [hj']) e (by simpa using he) hb
      simp only [Bool.not_true, Bool.false_or, decide_eq_true_eq]
      omega
  · rw [List.all_eq_true]
    intro j hj
    rw [List.all_eq_true]
    intro i hi
    have hj' : j < ops.size := by simpa using hj
    have hi' : i < j := by simpa using hi
    have key : ∀ k, (hk : k < ops.size) → ms[k]? = some (ms.getD k 0) := fun k hk => by
      have := mskL_get ops.toList ms k (ops[k]'hk) hm (by simp [hk])
      rw [List.getD_eq_getElem?_getD, this]; rfl
    cases hxi : sk[i]? with
    | none =>
      have h1 := key i (by omega)
      have h2 := Nat.eq_of_beq_eq_true hl
      have h3 := (List.getElem?_eq_some_iff.1 h1).1
      rw [List.getElem?_eq_none_iff] at hxi; omega
    | some x =>
      cases hyj : sk[j]? with
      | none =>
        have h1 := key j hj'
        have h2 := Nat.eq_of_beq_eq_true hl
        have h3 := (List.getElem?_eq_some_iff.1 h1).1
        rw [List.getElem?_eq_none_iff] at hyj; omega
      | some y =>
        simp only [Array.getElem?_eq_getElem hj', Array.getElem?_eq_getElem (show i < ops.size by omega)]
        have hx := zip3_get sk ops.toList ms i x (ops[i]'(by omega)) _ hxi (by simp [show i < ops.size by omega]) (key i (by omega))
        have hy := zip3_get sk ops.toList ms j y (ops[j]'hj') _ hyj (by simp [hj']) (key j hj')
        have hp := sepR_get _ 0 i j _ _ hr hi' hx hy
        simp only [prB, Bool.and_eq_true, Bool.or_eq_true, Nat.zero_add] at hp ⊢
        obtain ⟨h1, h2⟩ := hp
        refine ⟨h1, h2.imp (fun h => bf_of hu hm ops.size j i (by omega) hj' h) id⟩
end Go.Proofs.Ytobgdemhadlgnaa.Ev

namespace Go.Proofs.Ytobgdemhadlgnaa.Ev
open Go Go.RowKit
/-! ### flat values -/
def mapO {α β : Type} (f : α → Option β) : List α → Option (List β)
  | [] => some []
  | x :: l => match f x with
    | some y => match mapO f l with
      | some r => some (y :: r)
      | none => none
    | none => none
def fl : Nat → XV → Option Value
  | _, .v x => some x
  | n + 1, .a cs => (mapO (fl n) cs).map fun vs => .agg vs.toArray
  | n + 1, .t cs => (mapO (fl n) cs).map fun vs => .tuple vs.toArray
  | n + 1, .f g cs => (mapO (fl n) cs).map fun vs => .func (.func g) #[] vs.toArray
  | n + 1, .i t x => (fl n x).map fun y => .iface t y
  | _, _ => none
theorem fls_rx {β : Nat → Option (Nat × Nat)} {f : XV → Option Value} (h : ∀ c x u, f c = some x → Rx β c u → u = x) : ∀ {cs : List XV} {vs us : List Value}, mapO f cs = some vs → Rxs β cs us → us = vs
  | [], vs, us, h1, h2 => by
    have h1' : some [] = some vs := h1
    injection h1' with h1'; rw [← h1']; exact rxs_nil.1 h2
  | c :: cs, vs, us, h1, h2 => by
    unfold mapO at h1
    obtain ⟨u, us', rfl, h3, h4⟩ := rxs_cons.1 h2
    cases hc : f c with
    | none => rw [hc] at h1; cases h1
    | some y =>
      rw [hc] at h1
      cases hr : mapO f cs with
      | none => simp only [hr] at h1; cases h1
      | some r =>
        simp only [hr] at h1
        injection h1 with h1
        rw [← h1, h c y u hc h3, fls_rx h hr h4]
theorem fl_rx {β : Nat → Option (Nat × Nat)} : ∀ (n : Nat) (c : XV) (x u : Value), fl n c = some x → Rx β c u → u = x
  | 0, c, x, u, h, hr => by
    cases c <;> simp [fl] at h
    subst h; exact rx_v.1 hr
  | n + 1, c, x, u, h, hr => by
    cases c with
    | v y => simp [fl] at h; subst h; exact rx_v.1 hr
    | a cs =>
      simp only [fl, Option.map_eq_some_iff] at h
      obtain ⟨vs, h1, h2⟩ := h
      obtain ⟨us, h3, h4⟩ := rx_a.1 hr
      rw [h3, ← h2, fls_rx (fl_rx n) h1 h4]
    | t cs =>
      simp only [fl, Option.map_eq_some_iff] at h
      obtain ⟨vs, h1, h2⟩ := h
      obtain ⟨us, h3, h4⟩ := rx_t.1 hr
      rw [h3, ← h2, fls_rx (fl_rx n) h1 h4]
    | f g cs =>
      simp only [fl, Option.map_eq_some_iff] at h
      obtain ⟨vs, h1, h2⟩ := h
      obtain ⟨us, h3, h4⟩ := rx_f.1 hr
      rw [h3, ← h2, fls_rx (fl_rx n) h1 h4]
    | i t y =>
      simp only [fl, Option.map_eq_some_iff] at h
      obtain ⟨v, h1, h2⟩ := h
      obtain ⟨y', h3, h4⟩ := rx_i.1 hr
      rw [h3, ← h2, fl_rx n y v y' h1 h4]
    | p m o => simp [fl] at h
    | s m o n c z => simp [fl] at h
    | e => simp [fl] at h
    | mr m => simp [fl] at h
    | q => simp [fl] at h
    | h _ _ _ => simp [fl] at h
    | y _ => simp [fl] at h
/-- a computation that looks at nothing but the program -/
def peel {α : Type} (P : Program) : Nat → Sem α → Option α
  | _ + 1, .pure a => some a
  | n + 1, .program k => peel P n (k P)
  | n + 1, .mark _ k => peel P n k
  | _, _ => none
theorem peel_ok {α : Type} {P : Program} : ∀ (n : Nat) (s : Sem α) (a : α), peel P n s = some a → ∀ w, s.run P w = .ok a w
  | 0, s, a, h, w => by cases s <;> simp [peel] at h
  | n + 1, s, a, h, w => by
    cases s with
    | pure b => simp [peel] at h; subst h; rfl
    | program k => simp [peel] at h; exact peel_ok n _ a h w
    | mark m k => simp [peel] at h; exact peel_ok n _ a h w
    | _ => simp [peel] at h
def notSel : Op → Bool
  | .select _ _ => false
  | _ => true
def fev (ev : Operand → Option XV) (x : Operand) : Option Value := (ev x).bind (fl 20)
def flatOp (P : Program) (ev : Operand → Option XV) (o : Oper) : Option XV :=
  bif notSel o.op && (o.op.operands.toList.all fun x => (fev ev x).isSome) then
    match peel P 4000 (execOp (fun x => (fev ev x).getD undef) o) with
    | some (.value v) => some (ofV 20 v)
    | _ => none
  else none
structure Res where
  x : XV
  nw : List (Nat × XO) := []
  rn : List Nat := []
  fr : List Nat := []
def Res.eff (r : Res) (o : Oper) : Eff := ⟨o.dst.map fun d => (d, r.x), r.nw, r.rn, r.fr⟩
section
variable {P : Program} {N : Nat} {w0 : World} {D : Dom}
theorem flatOp_ok {o : Oper} {σ : AS} {x : XV} (h : flatOp P σ.ev o = some x) (hd : dOk o N = true) : OpS P N w0 D o σ (Res.eff { x := x } o) := by
  unfold flatOp at h
  cases hc : (notSel o.op && (o.op.operands.toList.all fun x => (fev σ.ev x).isSome)) with
  | false => rw [hc] at h; cases h
  | true =>
    rw [hc, cond_true] at h
    simp only [Bool.and_eq_true] at hc
    cases hp : peel P 4000 (execOp (fun x => (fev σ.ev x).getD undef) o) with
    | none => rw [hp] at h; cases h
    | some nx =>
      rw [hp] at h
      cases nx with
      | value v =>
        have h' : some (ofV 20 v) = some x := h
        injection h' with h'
        subst h'
        refine opS_still hd (fun σ' hok a w β hF => ⟨v, ?_, rx_ofV β 20 v⟩)
        have he : execOp a.eval o = execOp (fun x => (fev σ.ev x).getD undef) o := execOp_congr o (fun cs b e => by rw [e] at hc; cases hc.1) (fun y hy => by
          have h1 := List.all_eq_true.1 hc.2 y (by simpa using hy)
          obtain ⟨u, hu⟩ := Option.isSome_iff_exists.1 h1
          rw [hu]
          unfold fev at hu
          cases hev : σ.ev y with
          | none => rw [hev] at hu; cases hu
          | some c =>
            rw [hev] at hu
            exact fl_rx 20 c u _ hu (ev_get hok hF hy hev))
        rw [he]
        exact peel_ok _ _ _ hp w
      | _ => cases h
/-! ### moves -/
theorem move_ok {o : Oper} {σ : AS} {x : Operand} (ho : o.op = .move x ∨ o.op = .assign x) {c : XV} (hx : σ.ev x = some c) (hd : dOk o N = true) : OpS P N w0 D o σ (Res.eff { x := c } o) :=
  opS_still hd fun σ' hok a w β hF => ⟨a.eval x, by rcases ho with ho | ho <;> simp [execOp, ho], ev_get hok hF (by rcases ho with ho | ho <;> simp [ho, Op.operands]) hx⟩
theorem pick_ok {o : Oper} {σ : AS} {c x y : Operand} (ho : o.op = .pick c x y) {b : Bool} (hc : σ.ev c = some (.v (.bool b))) {v : XV} (hx : (bif b then σ.ev x else σ.ev y) = some v) (hd : dOk o N = true) : OpS P N w0 D o σ (Res.eff { x := v } o) :=
  opS_still hd fun σ' hok a w β hF => by
    have h1 := rx_v.1 (ev_get hok hF (x := c) (by simp [ho, Op.operands]) hc)
    cases b with
    | true => exact ⟨a.eval x, by simp [execOp, ho, h1, asBool], ev_get hok hF (by simp [ho, Op.operands]) hx⟩
    | false => exact ⟨a.eval y, by simp [execOp, ho, h1, asBool], ev_get hok hF (by simp [ho, Op.operands]) hx⟩
theorem extract_ok {o : Oper} {σ : AS} {x : Operand} {i : Nat} (ho : o.op = .extract x i) {cs : List XV} (hx : σ.ev x = some (.t cs)) {v : XV} (hv : cs[i]? = some v) (hd : dOk o N = true) : OpS P N w0 D o σ (Res.eff { x := v } o) :=
  opS_still hd fun σ' hok a w β hF => by
    obtain ⟨vs, h1, h2⟩ := rx_t.1 (ev_get hok hF (x := x) (by simp [ho, Op.operands]) hx)
    obtain ⟨u, hu, h3⟩ := h2.get hv
    refine ⟨u, ?_, h3⟩
    simp [execOp, ho, h1, Instr.extract, hu]
theorem mkfn_ok {o : Oper} {σ : AS} {g : FuncId} {caps : Array Operand} (ho : o.op = .makeFunc (.func g) #[] caps) {cs : List XV} (hc : mapO σ.ev caps.toList = some cs) (hd : dOk o N = true) : OpS P N w0 D o σ (Res.eff { x := .f g cs } o) :=
  opS_still hd fun σ' hok a w β hF => by
    have key : ∀ (xs : List Operand) (cs : List XV), mapO σ.ev xs = some cs → (∀ x ∈ xs, x ∈ o.op.operands) → Rxs β cs (xs.map a.eval) := by
      intro xs
      induction xs with
      | nil => intro cs h _; have h' : some [] = some cs := h; injection h' with h'; rw [← h']; exact Rxs.nil
      | cons x xs ih =>
        intro cs h hm
        unfold mapO at h
        cases hx : σ.ev x with
        | none => rw [hx] at h; cases h
        | some c =>
          rw [hx] at h
          cases hr : mapO σ.ev xs with
          | none => simp only [hr] at h; cases h
          | some r =>
            simp only [hr] at h
            injection h with h
            rw [← h]
            exact Rxs.cons (ev_get hok hF (hm x (by simp)) hx) (ih r hr (fun y hy => hm y (by simp [hy])))
    have h1 := key caps.toList cs hc (fun x hx => by simp [ho, Op.operands]; simpa using hx)
    exact ⟨.func (.func g) #[] (caps.map a.eval), by simp [execOp, ho, Instr.makeFunc], rx_f.2 ⟨_, (by apply congrArg (Value.func (.func g) #[]); apply Array.ext'; simp), h1⟩⟩
theorem mkfnH_ok {o : Oper} {σ : AS} {g : FuncId} {fs caps : Array Operand} (ho : o.op = .makeFunc (.func g) fs caps) {cs hs : List XV} (hh : mapO σ.ev fs.toList = some hs) (hc : mapO σ.ev caps.toList = some cs) (hd : dOk o N = true) : OpS P N w0 D o σ (Res.eff { x := .h g hs cs } o) :=
  opS_still hd fun σ' hok a w β hF => by
    have key : ∀ (xs : List Operand) (cs : List XV), mapO σ.ev xs = some cs → (∀ x ∈ xs, x ∈ o.op.operands) → Rxs β cs (xs.map a.eval) := by
      intro xs
      induction xs with
      | nil => intro cs h _; have h' : some [] = some cs := h; injection h' with h'; rw [← h']; exact Rxs.nil
      | cons x xs ih =>
        intro cs h hm
        unfold mapO at h
        cases hx : σ.ev x with
        | none => rw [hx] at h; cases h
        | some c =>
          rw [hx] at h
          cases hr : mapO σ.ev xs with
          | none => simp only [hr] at h; cases h
          | some r =>
            simp only [hr] at h
            injection h with h
            rw [← h]
            exact Rxs.cons (ev_get hok hF (hm x (by simp)) hx) (ih r hr (fun y hy => hm y (by simp [hy])))
    have h1 := key caps.toList cs hc (fun x hx => by simp [ho, Op.operands]; exact .inr (by simpa using hx))
    have h2 := key fs.toList hs hh (fun x hx => by simp [ho, Op.operands]; exact .inl (by simpa using hx))
    exact ⟨.func (.func g) (fs.map a.eval) (caps.map a.eval), by simp [execOp, ho, Instr.makeFunc], rx_h.2 ⟨_, _, (by rw [← Array.toList_map, ← Array.toList_map]), h2, h1⟩⟩
/-! ### addresses -/
theorem add_plain (b o j : Nat) : (⟨b, o, none⟩ : Addr).add j = ⟨b, o + j, none⟩ := by
  unfold Addr.add
  by_cases h : j = 0 <;> simp [h]
def xField (P : Program) (s : TypeId) (f : Nat) (c : XV) : Option Res :=
  match P.underlying s, c with
  | some (.struct fs), .p m o => match fs[f]? with
    | some fd => match P.info? fd.type with
      | some i => bif Nat.beq i.size 0 then none else some { x := .p m (o + fd.offset) }
      | none => none
    | none => none
  | _, _ => none
theorem field_ok {o : Oper} {σ : AS} {s : TypeId} {x : Operand} {f : Nat} (ho : o.op = .fieldAddr s x f) {c : XV} (hx : σ.ev x = some c) {r : Res} (h : xField P s f c = some r) (hd : dOk o N = true) : OpS P N w0 D o σ (r.eff o) := by
  unfold xField at h
  split at h
  · rename_i fs m oo hu
    split at h
    · rename_i fd hf
      split at h
      · rename_i i hi
        cases hz : Nat.beq i.size 0 with
        | true => rw [hz] at h; cases h
        | false =>
          rw [hz] at h
          injection h with h
          subst h
          have hz' : i.size ≠ 0 := fun e => by rw [e] at hz; cases hz
          refine opS_still hd fun σ' hok a w β hF => ?_
          obtain ⟨b, h1, h2⟩ := rx_p.1 (ev_get hok hF (x := x) (by simp [ho, Op.operands]) hx)
          refine ⟨.pointer (some ⟨b.1, oo + fd.offset, none⟩), ?_, rx_p.2 ⟨b, h1, rfl⟩⟩
          simp [execOp, ho, h2, Instr.fieldAt, run_underlying hu, hf, Instr.sureAddr, fieldPlace, sizeOf, typeInfo, hi, hz', add_plain]
      · cases h
    · cases h
  · cases h
def xIndex (P : Program) (t : TypeId) (c i : XV) : Option Res :=
  match i with
  | .v (.int _ k) => match P.underlying t, c with
    | some (.slice e), .s m o n _ _ => match P.info? e with
      | some i => bif decide (0 ≤ k) && decide (k < (n : Int)) then some { x := .p m (o + k.toNat * i.size) } else none
      | none => none
    | some (.array n e), .p m o => match P.info? e with
      | some i => bif decide (0 ≤ k) && decide (k < (n : Int)) then some { x := .p m (o + k.toNat * i.size) } else none
      | none => none
    | _, _ => none
  | _ => none
theorem index_ok {o : Oper} {σ : AS} {t : TypeId} {x y : Operand} (ho : o.op = .indexAddr t x y) {c d : XV} (hx : σ.ev x = some c) (hy : σ.ev y = some d) {r : Res} (h : xIndex P t c d = some r) (hd : dOk o N = true) : OpS P N w0 D o σ (r.eff o) := by
  unfold xIndex at h
  split at h
  · rename_i kk k
    split at h
    · rename_i e m oo n _ _ hu
      split at h
      · rename_i i hi
        cases hc : (decide (0 ≤ k) && decide (k < (n : Int))) with
        | false => rw [hc] at h; cases h
        | true =>
          rw [hc] at h
          injection h with h
          subst h
          simp only [Bool.and_eq_true, decide_eq_true_eq] at hc
          refine opS_still hd fun σ' hok a w β hF => ?_
          obtain ⟨b, q, h1, h2, _⟩ := rx_s.1 (ev_get hok hF (x := x) (by simp [ho, Op.operands]) hx)
          have h3 := rx_v.1 (ev_get hok hF (x := y) (by simp [ho, Op.operands]) hy)
          refine ⟨_, ?_, rx_p.2 ⟨b, h1, rfl⟩⟩
          simp [execOp, ho, h2, h3, Instr.indexAt, run_underlying hu, asIntOf, sizeOf, typeInfo, hi, hc.1, hc.2, add_plain]
      · cases h
    · rename_i n e m oo hu
      split at h
      · rename_i i hi
        cases hc : (decide (0 ≤ k) && decide (k < (n : Int))) with
        | false => rw [hc] at h; cases h
        | true =>
          rw [hc] at h
          injection h with h
          subst h
          simp only [Bool.and_eq_true, decide_eq_true_eq] at hc
          refine opS_still hd fun σ' hok a w β hF => ?_
          obtain ⟨b, h1, h2⟩ := rx_p.1 (ev_get hok hF (x := x) (by simp [ho, Op.operands]) hx)
          have h3 := rx_v.1 (ev_get hok hF (x := y) (by simp [ho, Op.operands]) hy)
          refine ⟨_, ?_, rx_p.2 ⟨b, h1, rfl⟩⟩
          simp [execOp, ho, h2, h3, Instr.indexAt, Instr.sureAddr, run_underlying hu, asIntOf, sizeOf, typeInfo, hi, hc.1, hc.2, add_plain]
      · cases h
    · cases h
  · cases h
/-! ### loads -/
def aggD (d : TypeDesc) : Bool := match d with | .struct _ | .array _ _ => true | _ => false
theorem run_isAgg' {t : TypeId} {d : TypeDesc} (h : P.underlying t = some d) (w : World) : (isAgg t).run P w = .ok (aggD d) w := by
  unfold isAgg
  rw [Sem.run_bind, run_underlying h w]
  cases d <;> rfl
theorem run_load_one {t : TypeId} {d : TypeDesc} (h : P.underlying t = some d) (hd : aggD d = false) {w : World} {b o : Nat} {u : Value} (hc : w.cell? ⟨b, o, none⟩ = some u) : (loadVar t ⟨b, o, none⟩).run P w = .ok u w := by
  unfold loadVar
  rw [Sem.run_bind, run_isAgg' h w, hd]
  simp [load, Sem.run, hc]
theorem run_load_many {t : TypeId} {d : TypeDesc} (h : P.underlying t = some d) (hd : aggD d = true) {i : TypeInfo} (hi : P.info? t = some i) {w : World} {b o : Nat} {us : List Value} (hl : us.length = i.size) (hc : ∀ j u, us[j]? = some u → w.cell? ⟨b, o + j, none⟩ = some u) :
    (loadVar t ⟨b, o, none⟩).run P w = .ok (.agg us.toArray) w := by
  have := run_loadCells_list (P := P) w ⟨b, o, none⟩ us (fun j v hv => by rw [add_plain]; exact hc j v hv)
  rw [hl] at this
  unfold loadVar
  rw [Sem.run_bind, run_isAgg' h w, hd]
  simp [sizeOf, typeInfo, hi, this]
theorem ro_c {β : Nat → Option (Nat × Nat)} {w : World} {m : Nat} {cs : List XV} {ty : TypeId} {opn : Bool} (h : Ro β w m (.c cs ty opn)) {b : Nat × Nat} (hb : β m = some b) :
    ∃ us vs fz, w.heap[b.1]? = some (.cells (us ++ vs).toArray ty fz) ∧ us.length + vs.length = b.2 ∧ (∀ o, o < us.length + vs.length → ¬ (fz.1 ≤ o ∧ o < fz.2)) ∧ Rxs β cs us ∧ (opn = false → vs = []) := by
  obtain ⟨b', us, vs, fz, h1, h2⟩ := h
  rw [hb] at h1; injection h1 with h1; subst h1
  exact ⟨us, vs, fz, h2⟩
theorem cell_c {w : World} {b j : Nat} {us vs : List Value} {ty : TypeId} {fz : Nat × Nat} (h : w.heap[b]? = some (.cells (us ++ vs).toArray ty fz)) {u : Value} (hu : us[j]? = some u) : w.cell? ⟨b, j, none⟩ = some u := by
  rw [cell_of_row w b j _ ty fz h]
  have hlt := (List.getElem?_eq_some_iff.1 hu).1
  simp only [List.getElem?_toArray]
  rw [List.getElem?_append_left hlt]; exact hu
def xLoad (P : Program) (n : Nat → XO) (t : TypeId) (c : XV) : Option Res :=
  match c with
  | .p m o => match n m with
    | .c cs _ _ => match P.underlying t with
      | some d => bif aggD d then (match P.info? t with
          | some i => bif Nat.ble (o + i.size) cs.length then some { x := .a ((cs.drop o).take i.size), rn := [m] } else none
          | none => none)
        else (match cs[o]? with | some x => some { x := x, rn := [m] } | none => none)
      | none => none
    | _ => none
  | _ => none
theorem take_drop_get {α : Type} {us : List α} {o z j : Nat} {u : α} (h : ((us.drop o).take z)[j]? = some u) : us[o + j]? = some u := by
  rw [List.getElem?_take] at h
  split at h
  · rw [List.getElem?_drop] at h; exact h
  · cases h
theorem load_ok {o : Oper} {σ : AS} {t : TypeId} {x : Operand} (ho : o.op = .load t x) {c : XV} (hx : σ.ev x = some c) {r : Res} (h : xLoad P σ.n t c = some r) (hd : dOk o N = true) : OpS P N w0 D o σ (r.eff o) := by
  unfold xLoad at h
  split at h
  · rename_i m oo
    split at h
    · rename_i cs ty opn hm
      split at h
      · rename_i d hu
        cases ha : aggD d with
        | true =>
          rw [ha, cond_true] at h
          split at h
          · rename_i i hi
            cases hl : Nat.ble (oo + i.size) cs.length with
            | false => rw [hl] at h; cases h
            | true =>
              rw [hl, cond_true] at h
              injection h with h
              subst h
              have hl' := Nat.le_of_ble_eq_true hl
              refine opS_still hd fun σ' hok a w β hF => ?_
              obtain ⟨b, h1, h2⟩ := rx_p.1 (ev_get hok hF (x := x) (by simp [ho, Op.operands]) hx)
              have hm' : σ'.n m = .c cs ty opn := by rw [hok.n m (by simp)]; exact hm
              have hR := hF.n m
              rw [hm'] at hR
              obtain ⟨us, vs, fz, g1, g2, g3, g4, g5⟩ := ro_c hR h1
              have hlen := g4.len
              refine ⟨.agg ((us.drop oo).take i.size).toArray, ?_, rx_a.2 ⟨_, rfl, (g4.drop oo).take i.size⟩⟩
              have := run_load_many (P := P) hu ha hi (w := w) (b := b.1) (o := oo) (us := (us.drop oo).take i.size) (by simp; omega) (fun j u hj => cell_c g1 (take_drop_get hj))
              simp [execOp, ho, h2, Instr.loadAt, Instr.sureAddr, this]
          · cases h
        | false =>
          rw [ha, cond_false] at h
          split at h
          · rename_i y hy
            injection h with h
            subst h
            refine opS_still hd fun σ' hok a w β hF => ?_
            obtain ⟨b, h1, h2⟩ := rx_p.1 (ev_get hok hF (x := x) (by simp [ho, Op.operands]) hx)
            have hm' : σ'.n m = .c cs ty opn := by rw [hok.n m (by simp)]; exact hm
            have hR := hF.n m
            rw [hm'] at hR
            obtain ⟨us, vs, fz, g1, g2, g3, g4, g5⟩ := ro_c hR h1
            obtain ⟨u, hu', hru⟩ := g4.get hy
            refine ⟨u, ?_, hru⟩
            simp [execOp, ho, h2, Instr.loadAt, Instr.sureAddr, run_load_one hu ha (cell_c g1 hu')]
          · cases h
      · cases h
    · cases h
  · cases h
/-! ### stores -/
def XV.one : XV → Bool
  | .v x => x.oneCell'
  | .a _ => false
  | .t _ => false
  | _ => true
theorem one_rx {β : Nat → Option (Nat × Nat)} {c : XV} {u : Value} (h : Rx β c u) (h1 : c.one = true) : u.oneCell' = true := by
  cases c with
  | v x => rw [rx_v.1 h]; exact h1
  | p m o => obtain ⟨b, _, rfl⟩ := rx_p.1 h; rfl
  | s m o n c z => obtain ⟨b, k, _, rfl, _⟩ := rx_s.1 h; rfl
  | e => obtain ⟨A, k, rfl⟩ := rx_e.1 h; rfl
  | mr m => obtain ⟨b, _, rfl⟩ := rx_m.1 h; rfl
  | f g cs => obtain ⟨vs, rfl, _⟩ := rx_f.1 h; rfl
  | i t x => obtain ⟨y, rfl, _⟩ := rx_i.1 h; rfl
  | q => obtain ⟨y, _, rfl⟩ := rx_q.1 h; rfl
  | h g fs cs => obtain ⟨ws, vs, rfl, _⟩ := rx_h.1 h; rfl
  | y m => obtain ⟨b, _, rfl⟩ := rx_y.1 h; rfl
  | a cs => cases h1
  | t cs => cases h1
theorem ones_rx {β : Nat → Option (Nat × Nat)} : ∀ {cs : List XV} {us : List Value}, Rxs β cs us → (cs.all XV.one) = true → ∀ u ∈ us, u.oneCell' = true
  | [], us, h, _ => by rw [rxs_nil.1 h]; intro u hu; cases hu
  | c :: cs, us, h, h1 => by
    obtain ⟨v, vs, rfl, h2, h3⟩ := rxs_cons.1 h
    simp only [List.all_cons, Bool.and_eq_true] at h1
    intro u hu
    rcases List.mem_cons.1 hu with e | e
    · rw [e]; exact one_rx h2 h1.1
    · exact ones_rx h3 h1.2 u e
/-- the cells of a value -/
def cellsX : XV → Option (List XV)
  | .a cs => bif cs.all XV.one then some cs else none
  | .t _ => none
  | .v x => bif x.oneCell' then some [.v x] else none
  | c => some [c]
theorem cells_one {u : Value} (h : u.oneCell' = true) : u.cells = #[u] := by cases u <;> first | rfl | cases h
theorem cellsX_rx {β : Nat → Option (Nat × Nat)} {c : XV} {ds : List XV} {u : Value} (h : cellsX c = some ds) (hr : Rx β c u) : Rxs β ds u.cells.toList ∧ ∀ v ∈ u.cells.toList, v.oneCell' = true := by
  have one1 : ∀ c : XV, Rx β c u → c.one = true → Rxs β [c] u.cells.toList ∧ ∀ v ∈ u.cells.toList, v.oneCell' = true := fun c hr h1 => by
    have := one_rx hr h1
    rw [cells_one this]
    exact ⟨Rxs.cons hr Rxs.nil, fun v hv => by simp at hv; subst hv; exact this⟩
  cases c with
  | a cs =>
    have h : (bif cs.all XV.one then some cs else none) = some ds := h
    cases hc : cs.all XV.one with
    | false => rw [hc] at h; cases h
    | true =>
      rw [hc] at h; injection h with h; subst h
      obtain ⟨vs, rfl, h2⟩ := rx_a.1 hr
      exact ⟨h2, ones_rx h2 hc⟩
  | t cs => cases h
  | v x =>
    have h : (bif x.oneCell' then some [XV.v x] else none) = some ds := h
    cases hc : x.oneCell' with
    | false => rw [hc] at h; cases h
    | true => rw [hc] at h; injection h with h; subst h; exact one1 _ hr hc
  | _ => (injection h with h; subst h; exact one1 _ hr rfl)
theorem list_seg (l : List Value) (k : Nat) (v : Value) (rest : List Value) (h : k + (rest.length + 1) ≤ l.length) : (l.set k v).take (k + 1) ++ rest ++ (l.set k v).drop (k + 1 + rest.length) = l.take k ++ (v :: rest) ++ l.drop (k + (rest.length + 1)) := by
  have h1 : (l.set k v).take (k + 1) = l.take k ++ [v] := by
    rw [List.take_succ_eq_append_getElem (by simp; omega), List.take_set_of_le (Nat.le_refl _)]
    simp
  have h2 : (l.set k v).drop (k + 1 + rest.length) = l.drop (k + (rest.length + 1)) := by
    rw [List.drop_set_of_lt (by omega)]
    congr 1
    omega
  rw [h1, h2]; simp
theorem setRow_self' (w : World) (g : Nat) (cur : Array Value) (t : TypeId) (fr : Nat × Nat) (hg : w.heap[g]? = some (.cells cur t fr)) : w.setRow g cur = w := by
  have hlt : g < w.heap.size := (Array.getElem?_eq_some_iff.1 hg).1
  have hv : w.heap[g] = .cells cur t fr := (Array.getElem?_eq_some_iff.1 hg).2
  unfold World.setRow
  obtain ⟨heap, tape, drawn, os, output⟩ := w
  congr 1
  apply Array.ext
  · simp
  · intro i h1 h2
    simp only [Array.getElem_modify]
    split
    · rename_i e; subst e; simp only at hv; rw [hv]
    · rfl
theorem run_stores (g o : Nat) (t : TypeId) (fz : Nat × Nat) : ∀ (vs : List Value) (i : Nat) (cur : Array Value) (w : World), w.heap[g]? = some (.cells cur t fz) → (∀ j, j < cur.size → ¬ (fz.1 ≤ j ∧ j < fz.2)) → o + i + vs.length ≤ cur.size → (∀ v ∈ vs, v.oneCell' = true) →
    (storeCells ⟨g, o, none⟩ vs i).run P w = .ok () (w.setRow g (cur.toList.take (o + i) ++ vs ++ cur.toList.drop (o + i + vs.length)).toArray)
  | [], i, cur, w, hg, _, _, _ => by
    simp only [storeCells, List.append_nil, List.length_nil, Nat.add_zero, List.take_append_drop, Array.toArray_toList]
    rw [setRow_self' w g cur t fz hg]
    rfl
  | v :: rest, i, cur, w, hg, hz, hl, h1 => by
    have hi : o + i < cur.size := by simp at hl; omega
    have hcell : w.cell? ⟨g, o + i, none⟩ = some cur[o + i] := by simp [World.cell?, hg, hi]
    have hfro : w.frozen? ⟨g, o + i, none⟩ = false := by
      have := hz (o + i) hi
      simp only [World.frozen?, hg]
      simpa using this
    have hst : (store ((⟨g, o, none⟩ : Addr).add i) v).run P w = .ok () (w.setRow g (cur.setIfInBounds (o + i) v)) := by
      rw [add_plain, run_store P w _ v _ (h1 v (by simp)), hcell]
      simp [hfro, setCell_eq_setRow w g (o + i) cur t fz v hg]
    have ih := run_stores g o t fz rest (i + 1) (cur.setIfInBounds (o + i) v) (w.setRow g (cur.setIfInBounds (o + i) v)) (setRow_heap w g cur _ t _ hg) (by simpa using hz) (by simp at hl ⊢; omega) (fun x hx => h1 x (by simp [hx]))
    simp only [storeCells, Sem.run_bind, hst, Result.andThen_ok, ih, setRow_setRow]
    congr 3
    have e := list_seg cur.toList (o + i) v rest (by simp at hl ⊢; omega)
    simpa [Array.toList_setIfInBounds, Nat.add_assoc] using e
theorem run_sizeOf'' {t : TypeId} {i : TypeInfo} (hi : P.info? t = some i) {w : World} : (sizeOf t).run P w = .ok i.size w := by simp [sizeOf, typeInfo, hi]
def spliceX (cs : List XV) (o : Nat) (ds : List XV) : List XV := cs.take o ++ ds ++ cs.drop (o + ds.length)
/-- known cells of a block are written -/
theorem set_cells {w : World} {β : Nat → Option (Nat × Nat)} {m : Nat} {cs : List XV} {ty : TypeId} {opn : Bool} (hR : Ro β w m (.c cs ty opn)) {b : Nat × Nat} (hb : β m = some b) {o : Nat} {ds : List XV} {vs : List Value} (hd : Rxs β ds vs) (h1 : ∀ v ∈ vs, v.oneCell' = true) (hl : o + ds.length ≤ cs.length) :
    ∃ row : Array Value, (storeCells ⟨b.1, o, none⟩ vs 0).run P w = .ok () (w.setRow b.1 row) ∧ Ro β (w.setRow b.1 row) m (.c (spliceX cs o ds) ty opn) := by
  obtain ⟨us, tl, fz, g1, g2, g3, g4, g5⟩ := ro_c hR hb
  have e1 := g4.len
  have e2 := hd.len
  have hrun := run_stores (P := P) b.1 o ty fz vs 0 (us ++ tl).toArray w g1 (by simpa using g3) (by simp; omega) h1
  have e3 : ((us ++ tl).toArray.toList.take (o + 0) ++ vs ++ (us ++ tl).toArray.toList.drop (o + 0 + vs.length)) = (us.take o ++ vs ++ us.drop (o + ds.length)) ++ tl := by
    simp only [Nat.add_zero, e2]
    rw [List.take_append_of_le_length (by omega), List.drop_append_of_le_length (by omega)]
    simp
  rw [e3] at hrun
  refine ⟨_, hrun, b, us.take o ++ vs ++ us.drop (o + ds.length), tl, fz, hb, setRow_heap w b.1 _ _ ty fz g1, ?_, ?_, ((g4.take o).append hd).append (g4.drop _), g5⟩
  · simp; omega
  · intro j hj
    exact g3 j (by simp at hj; omega)
def xStore (P : Program) (n : Nat → XO) (t : TypeId) (c d : XV) : Option Res :=
  match c with
  | .p m o => match n m with
    | .c cs ty opn => match P.info? t, cellsX d with
      | some i, some ds => bif Nat.beq ds.length i.size && Nat.ble (o + ds.length) cs.length then some { x := .v undef, nw := [(m, .c (spliceX cs o ds) ty opn)], rn := [m] } else none
      | _, _ => none
    | _ => none
  | _ => none
theorem store_ok {o : Oper} {σ : AS} {t : TypeId} {x y : Operand} (ho : o.op = .store t x y) {c d : XV} (hx : σ.ev x = some c) (hy : σ.ev y = some d) {r : Res} (h : xStore P σ.n t c d = some r) (hd : dOk o N = true) : OpS P N w0 D o σ (r.eff o) := by
  unfold xStore at h
  split at h
  · rename_i m oo
    split at h
    · rename_i cs ty opn hm
      split at h
      · rename_i i ds hi hds
        cases hc : (Nat.beq ds.length i.size && Nat.ble (oo + ds.length) cs.length) with
        | false => rw [hc] at h; cases h
        | true =>
          rw [hc] at h
          injection h with h
          subst h
          simp only [Bool.and_eq_true] at hc
          have hc1 := Nat.eq_of_beq_eq_true hc.1
          have hc2 := Nat.le_of_ble_eq_true hc.2
          intro σ' hok a w hs K Q hK
          obtain ⟨β, hF⟩ := hs.f
          obtain ⟨b, h1, h2⟩ := rx_p.1 (ev_get hok hF (x := x) (by simp [ho, Op.operands]) hx)
          have hv := ev_get hok hF (x := y) (by simp [ho, Op.operands]) hy
          have hm' : σ'.n m = .c cs ty opn := by rw [hok.n m (by simp [Res.eff])]; exact hm
          have hR := hF.n m
          rw [hm'] at hR
          obtain ⟨q1, q2⟩ := cellsX_rx hds hv
          obtain ⟨row, e1, e2⟩ := set_cells (P := P) hR h1 q1 q2 hc2
          have hex : (execOp a.eval o).run P w = .ok .skip (w.setRow b.1 row) := by
            have hlen := q1.len
            have hsz : ¬ ((a.eval y).cells.size ≠ i.size) := by simp at hlen; omega
            simp only [execOp, ho, Instr.storeAt, Instr.sureAddr, h2, Sem.run_bind, Sem.run_pure, Result.andThen_ok, storeVar, run_sizeOf'' hi]
            rw [if_neg hsz, e1]
            rfl
          refine owp_s (hex) ?_
          exact hK _ _ (hs.set (w' := w.setRow b.1 row) (ob := .c (spliceX cs oo ds) ty opn) hF (m := m) (by rw [hm']; rfl) h1 rfl rfl rfl rfl (by simp) (fun g hg hne => setRow_other w b.1 g _ hne) e2 hd (rx_v.2 rfl) [m])
      · cases h
    · cases h
  · cases h
end
end Go.Proofs.Ytobgdemhadlgnaa.Ev

