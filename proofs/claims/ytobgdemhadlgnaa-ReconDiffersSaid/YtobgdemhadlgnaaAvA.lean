/- Rules for states of data. Conditions: as each theorem names them. -/
import Derived.MapKept
import Derived.WalkKit
import Derived.Below
import Derived.Orders
import Derived.Laws.AppendOwn
import Derived.Laws.Entries
import Derived.Lib.Hide
import Derived.Laws.Cells
import Derived.Laws.Rows
import Derived.Laws.Tables
import Derived.OrdersIn
import Derived.ControlIn
import Derived.LoopNIn
set_option linter.unusedSimpArgs false
set_option linter.unusedVariables false
namespace Go.Proofs.Ytobgdemhadlgnaa.Av
open Go Go.RowKit
/-- a datum -/
inductive DV where
  | fl (x : Value)
  | ag (cs : List DV)
  | sl (z : Nat) (rows : List (List DV))
  | el (cs : List DV)
  | fn (f : FuncId) (cs : List DV)
  | mp (ents : List (Value × DV))
/-- what a function value has captured: data, or the pointer to a box of the call's own -/
inductive XA where
  | d (x : DV)
  | p (m : Nat)
  | q (m : Nat) (x : Value)
/-- what is known of a temporary -/
inductive AV where
  | un
  | d (x : DV)
  | pt (m o : Nat)
  | pe (m z i j : Nat)
  | pv (m : Nat) (x : Value)
  | pw (m : Nat) (x : Value)
  | wn (m k z : Nat)
  | ow (m : Nat)
  | tu (cs : List DV)
  | cl (f : FuncId) (cs : List XA)
abbrev AV.el (cs : List DV) : AV := .d (.el cs)
/-- a cell that may own the row behind it -/
inductive OC where
  | un
  | dv (x : DV)
  | ow (e : TypeId) (z : Nat) (rows : List (List DV))
def OC.rd : OC → DV
  | .un => .fl (.tuple #[])
  | .dv x => x
  | .ow _ z rows => .sl z rows
/-- what is known of a block of the call's own -/
inductive Ob where
  | no
  | bx (ty : TypeId) (cs : List DV)
  | ow (e : TypeId) (z : Nat) (rows : List (List DV))
  | tr (e : TypeId) (z : Nat) (rows : List (List OC))
  | bt (ty : TypeId) (cs : List OC)
  | sv (cs : List OC)
  | mp (ents : List (Value × DV))
  | it (s : ByteArray) (p : Nat)
  | mi (left : List (Value × DV)) (cur : Option (Value × DV))
  | pin (H : World) (V : Nat → Nat) (Q : Nat → Prop)
def Ob.live : Ob → Bool
  | .no => false
  | _ => true
def cellAt (rows : List (List DV)) (i j : Nat) : Option DV := (rows[i]?).bind (·[j]?)
inductive Rd (w : World) (U : Nat → Nat) : Value → DV → Prop
  | fl (x : Value) : Rd w U x (.fl x)
  | ag (vs : Array Value) (cs : List DV) (h : vs.size = cs.length) (ho : ∀ u ∈ vs.toList, u.oneCell' = true) (hc : ∀ (j : Nat) (u : Value) (x : DV), vs.toList[j]? = some u → cs[j]? = some x → Rd w U u x) : Rd w U (.agg vs) (.ag cs)
  | sn (A : Option Addr) (c z : Nat) : Rd w U (.slice A 0 c) (.sl z [])
  | sl (b off n c z : Nat) (rows : List (List DV)) (u : Nat → Nat → Value) (hn : rows.length = n) (hz : ∀ r ∈ rows, r.length = z) (hm : n ≤ 9223372036854775807 ∧ n ≤ c)
      (hcell : ∀ i j x, cellAt rows i j = some x → w.cell? ⟨b, off + i * z + j, none⟩ = some (u i j) ∧ off + i * z + j < U b ∧ (u i j).oneCell' = true)
      (hr : ∀ i j x, cellAt rows i j = some x → Rd w U (u i j) x) : Rd w U (.slice (some ⟨b, off, none⟩) n c) (.sl z rows)
  | el (b off : Nat) (cs : List DV) (u : Nat → Value) (hcell : ∀ (j : Nat) (x : DV), cs[j]? = some x → w.cell? ⟨b, off + j, none⟩ = some (u j) ∧ off + j < U b ∧ (u j).oneCell' = true)
      (hr : ∀ (j : Nat) (x : DV), cs[j]? = some x → Rd w U (u j) x) : Rd w U (.pointer (some ⟨b, off, none⟩)) (.el cs)
  | fn (f : FuncId) (vs : Array Value) (cs : List DV) (h : vs.size = cs.length) (hc : ∀ (j : Nat) (u : Value) (x : DV), vs.toList[j]? = some u → cs[j]? = some x → Rd w U u x) : Rd w U (.func (.func f) #[] vs) (.fn f cs)
  | mp (r : Nat) (es : Array MapEntry) (c : Nat) (ents : List (Value × DV)) (hb : w.heap[r]? = some (.map es c)) (hu : 0 < U r) (hl : es.size = ents.length) (hk : ∀ (i : Nat) (e : MapEntry) (x : Value × DV), es.toList[i]? = some e → ents[i]? = some x → e.key = x.1)
      (hv : ∀ (i : Nat) (e : MapEntry) (x : Value × DV), es.toList[i]? = some e → ents[i]? = some x → Rd w U e.val x.2) (hst : MapKept.Stamped es c) : Rd w U (.map (some r)) (.mp ents)
structure Ext (w : World) (U : Nat → Nat) (w' : World) (U' : Nat → Nat) : Prop where
  c : ∀ b o u, w.cell? ⟨b, o, none⟩ = some u → o < U b → w'.cell? ⟨b, o, none⟩ = some u ∧ o < U' b
  m : ∀ r es c, w.heap[r]? = some (.map es c) → 0 < U r → w'.heap[r]? = w.heap[r]? ∧ U' r = U r
theorem Ext.rfl {w : World} {U : Nat → Nat} : Ext w U w U := ⟨fun _ _ _ h1 h2 => ⟨h1, h2⟩, fun _ _ _ _ _ => ⟨by rfl, by rfl⟩⟩
theorem Rd.ext {w w' : World} {U U' : Nat → Nat} (hE : Ext w U w' U') {v : Value} {x : DV} (h : Rd w U v x) : Rd w' U' v x := by
  induction h with
  | fl x => exact .fl x
  | ag vs cs h ho hc ih => exact .ag vs cs h ho ih
  | sn A c z => exact .sn A c z
  | sl b off n c z rows u hn hz hm hcell hr ih =>
    exact .sl b off n c z rows u hn hz hm (fun i j x hx => by
      obtain ⟨h1, h2, h3⟩ := hcell i j x hx
      obtain ⟨h4, h5⟩ := hE.c _ _ _ h1 h2
      exact ⟨h4, h5, h3⟩) ih
  | el b off cs u hcell hr ih =>
    exact .el b off cs u (fun j x hx => by
      obtain ⟨h1, h2, h3⟩ := hcell j x hx
      obtain ⟨h4, h5⟩ := hE.c _ _ _ h1 h2
      exact ⟨h4, h5, h3⟩) ih
  | fn f vs cs h hc ih => exact .fn f vs cs h ih
  | mp r es c ents hb hu hl hk hv hst ih =>
    obtain ⟨h1, h2⟩ := hE.m r es c hb hu
    exact .mp r es c ents (h1.trans hb) (by omega) hl hk ih hst
def Rds (w : World) (U : Nat → Nat) (vs : List Value) (cs : List DV) : Prop := vs.length = cs.length ∧ ∀ (j : Nat) (u : Value) (x : DV), vs[j]? = some u → cs[j]? = some x → Rd w U u x
def Rc (w : World) (U : Nat → Nat) (vs : List Value) (cs : List DV) : Prop := Rds w U vs cs ∧ ∀ u ∈ vs, u.oneCell' = true
theorem Rds.ext {w w' : World} {U U' : Nat → Nat} (hE : Ext w U w' U') {vs : List Value} {cs : List DV} (h : Rds w U vs cs) : Rds w' U' vs cs := ⟨h.1, fun j u x h1 h2 => (h.2 j u x h1 h2).ext hE⟩
theorem Rc.ext {w w' : World} {U U' : Nat → Nat} (hE : Ext w U w' U') {vs : List Value} {cs : List DV} (h : Rc w U vs cs) : Rc w' U' vs cs := ⟨h.1.ext hE, h.2⟩
theorem Rds.nil {w : World} {U : Nat → Nat} : Rds w U [] [] := ⟨rfl, fun j u x h => by simp at h⟩
theorem Rds.cons {w : World} {U : Nat → Nat} {v : Value} {vs : List Value} {c : DV} {cs : List DV} (h : Rd w U v c) (hs : Rds w U vs cs) : Rds w U (v :: vs) (c :: cs) := by
  refine ⟨by simp [hs.1], fun j u x h1 h2 => ?_⟩
  cases j with
  | zero => simp at h1 h2; subst h1 h2; exact h
  | succ j => simp at h1 h2; exact hs.2 j u x h1 h2
theorem Rds.inv_cons {w : World} {U : Nat → Nat} {v : Value} {vs : List Value} {c : DV} {cs : List DV} (h : Rds w U (v :: vs) (c :: cs)) : Rd w U v c ∧ Rds w U vs cs :=
  ⟨h.2 0 v c rfl rfl, by have := h.1; simpa using this, fun j u x h1 h2 => h.2 (j + 1) u x (by simpa using h1) (by simpa using h2)⟩
theorem Rds.append {w : World} {U : Nat → Nat} {vs us : List Value} {cs ds : List DV} (h : Rds w U vs cs) (k : Rds w U us ds) : Rds w U (vs ++ us) (cs ++ ds) := by
  refine ⟨by simp [h.1, k.1], fun j u x h1 h2 => ?_⟩
  have hl := h.1
  rcases Nat.lt_or_ge j vs.length with hj | hj
  · rw [List.getElem?_append_left hj] at h1
    rw [List.getElem?_append_left (by omega)] at h2
    exact h.2 j u x h1 h2
  · rw [List.getElem?_append_right hj] at h1
    rw [List.getElem?_append_right (by omega), ← hl] at h2
    exact k.2 _ u x h1 h2
theorem Rc.append {w : World} {U : Nat → Nat} {vs us : List Value} {cs ds : List DV} (h : Rc w U vs cs) (k : Rc w U us ds) : Rc w U (vs ++ us) (cs ++ ds) :=
  ⟨h.1.append k.1, fun u hu => (List.mem_append.1 hu).elim (h.2 u) (k.2 u)⟩
/-- the world has grown; nothing that was there has turned -/
structure Up (w : World) (U : Nat → Nat) (w' : World) (U' : Nat → Nat) : Prop where
  h : ∀ b, b < w.heap.size → w'.heap[b]? = w.heap[b]?
  u : ∀ b, b < w.heap.size → U' b = U b
theorem Up.ext {w w' : World} {U U' : Nat → Nat} (h : Up w U w' U') : Ext w U w' U' := ⟨fun b o u hc ho => by
  have hlt := World.block_lt_of_cell? w _ hc
  exact ⟨(World.cell?_of_block (h.h b hlt)).trans hc, by rw [h.u b hlt]; exact ho⟩, fun r es c hr hu => by
  have hlt : r < w.heap.size := (Array.getElem?_eq_some_iff.1 hr).1
  exact ⟨h.h r hlt, h.u r hlt⟩⟩
theorem elD {w : World} {U : Nat → Nat} {v : Value} {cs : List DV} (h : Rd w U v (.el cs)) : ∃ b off, v = .pointer (some ⟨b, off, none⟩) ∧ ∀ (j : Nat) (x : DV), cs[j]? = some x → ∃ u, w.cell? ⟨b, off + j, none⟩ = some u ∧ off + j < U b ∧ u.oneCell' = true ∧ Rd w U u x := by
  cases h with
  | el b off _ u hcell hr => exact ⟨b, off, rfl, fun j x hx => ⟨u j, (hcell j x hx).1, (hcell j x hx).2.1, (hcell j x hx).2.2, hr j x hx⟩⟩
theorem elM {w : World} {U : Nat → Nat} {b off : Nat} {cs : List DV} (h : ∀ (j : Nat) (x : DV), cs[j]? = some x → ∃ u, w.cell? ⟨b, off + j, none⟩ = some u ∧ off + j < U b ∧ u.oneCell' = true ∧ Rd w U u x) : Rd w U (.pointer (some ⟨b, off, none⟩)) (.el cs) := by
  refine .el b off cs (fun j => (w.cell? ⟨b, off + j, none⟩).getD undef) (fun j x hx => ?_) (fun j x hx => ?_)
  · obtain ⟨u, h1, h2, h3, _⟩ := h j x hx
    rw [h1]
    exact ⟨rfl, h2, h3⟩
  · obtain ⟨u, h1, _, _, h4⟩ := h j x hx
    rw [h1]
    exact h4
structure Fr where
  β : Nat → Option Nat
  γ : Nat → Value
  U : Nat → Nat
  S : Nat → Nat → Prop
def Rxa (w : World) (F : Fr) : XA → Value → Prop
  | .d x, u => Rd w F.U u x
  | .p m, u => ∃ b, F.β m = some b ∧ u = .pointer (some ⟨b, 0, none⟩)
  | .q m x, u => u = x ∧ ∃ b, F.β m = some b ∧ x = .pointer (some ⟨b, 0, none⟩)
def XA.says : XA → Nat → Bool
  | .p m, k => m == k
  | .q m _, k => m == k
  | _, _ => false
def XA.ren (ρ : Nat → Nat) : XA → XA
  | .p m => .p (ρ m)
  | .q m x => .q (ρ m) x
  | c => c
/-- the slice from its k-th element on; an element has z cells -/
def winV : Value → Nat → Nat → Value
  | .slice (some a) n c, k, z => .slice (some (a.add (k * z))) (n - k) (c - k)
  | v, _, _ => v
def Rav (w : World) (F : Fr) : AV → Value → Prop
  | .cl f cs, v => ∃ vs : Array Value, v = .func (.func f) #[] vs ∧ vs.size = cs.length ∧ ∀ (j : Nat) (u : Value) (c : XA), vs.toList[j]? = some u → cs[j]? = some c → Rxa w F c u
  | .un, _ => True
  | .d x, v => Rd w F.U v x
  | .pt m o, v => ∃ b, F.β m = some b ∧ v = .pointer (some ⟨b, o, none⟩)
  | .pe m z i j, v => ∃ b, (F.γ m).ownBlock = some b ∧ v = .pointer (some ⟨b, i * z + j, none⟩)
  | .pv m x, v => v = x ∧ ∃ b, F.β m = some b ∧ x = .pointer (some ⟨b, 0, none⟩)
  | .pw m x, v => v = x ∧ x = F.γ m
  | .wn m k z, v => v = winV (F.γ m) k z
  | .ow m, v => v = F.γ m
  | .tu cs, v => ∃ vs : Array Value, v = .tuple vs ∧ Rds w F.U vs.toList cs
/-- a cell and what it owns -/
def Toc (w : World) (U : Nat → Nat) (B : Nat) (u : Value) (T : Nat → Prop) : OC → Prop
  | .un => ∀ b, ¬ T b
  | .dv x => Rd w U u x ∧ ∀ b, ¬ T b
  | .ow e z rows => ∃ xs, w.ownsRow B e z u rows.length xs ∧ Rc w U xs rows.flatten ∧ (∀ r ∈ rows, r.length = z) ∧ (∀ b, T b ↔ u.ownBlock = some b) ∧ ∀ b, u.ownBlock = some b → U b = 0
structure Tcs (w : World) (U : Nat → Nat) (B : Nat) (us : List Value) (cs : List OC) (T : Nat → Nat → Prop) : Prop where
  l : us.length = cs.length
  c : ∀ (k : Nat) (u : Value) (c : OC), us[k]? = some u → cs[k]? = some c → Toc w U B u (T k) c
  o : ∀ u ∈ us, u.oneCell' = true
  d : ∀ k k' b, T k b → T k' b → k = k'
  b : ∀ k b, T k b → k < us.length
/-- the entries of a map, in the order in which they came -/
def Ents (w : World) (U : Nat → Nat) (es : List MapEntry) (xs : List (Value × DV)) : Prop := es.length = xs.length ∧ ∀ (i : Nat) (e : MapEntry) (x : Value × DV), es[i]? = some e → xs[i]? = some x → e.key = x.1 ∧ Rd w U e.val x.2
theorem Ents.ext {w w' : World} {U U' : Nat → Nat} (hE : Ext w U w' U') {es : List MapEntry} {xs : List (Value × DV)} (h : Ents w U es xs) : Ents w' U' es xs := ⟨h.1, fun i e x h1 h2 => ⟨(h.2 i e x h1 h2).1, (h.2 i e x h1 h2).2.ext hE⟩⟩
/-- the entry that a range over a map gave last -/
def Cur (w : World) (U : Nat → Nat) (es : Array MapEntry) (c last : Nat) (seen : Array Nat) : Option (Value × DV) → Prop
  | none => True
  | some x => last = c ∧ ∃ e ∈ es.toList, seen.back? = some e.born ∧ e.key = x.1 ∧ Rd w U e.val x.2
theorem Cur.ext {w w' : World} {U U' : Nat → Nat} (hE : Ext w U w' U') {es : Array MapEntry} {c last : Nat} {seen : Array Nat} {q : Option (Value × DV)} (h : Cur w U es c last seen q) : Cur w' U' es c last seen q := by
  cases q with
  | none => trivial
  | some x => obtain ⟨h1, e, h2, h3, h4, h5⟩ := h; exact ⟨h1, e, h2, h3, h4, h5.ext hE⟩
def Rob (B : Nat) (w : World) (F : Fr) (m : Nat) : Ob → Prop
  | .no => True
  | .bx ty cs => ∃ b vs, F.β m = some b ∧ B ≤ b ∧ F.U b = 0 ∧ w.heap[b]? = some (.cells vs ty (0, 0)) ∧ Rc w F.U vs.toList cs ∧ ∀ b', F.S m b' ↔ b' = b
  | .ow e z rows => ∃ xs, w.ownsRow B e z (F.γ m) rows.length xs ∧ Rc w F.U xs rows.flatten ∧ (∀ r ∈ rows, r.length = z) ∧ (∀ b, F.S m b ↔ (F.γ m).ownBlock = some b) ∧ ∀ b, F.S m b → F.U b = rows.length * z
  | .tr e z rows => ∃ xs T, w.ownsRow B e z (F.γ m) rows.length xs ∧ Tcs w F.U B xs rows.flatten T ∧ (∀ r ∈ rows, r.length = z) ∧ (∀ b, (F.γ m).ownBlock = some b → F.U b = 0 ∧ ∀ k, ¬ T k b) ∧ ∀ b, F.S m b ↔ ((F.γ m).ownBlock = some b ∨ ∃ k, T k b)
  | .bt ty cs => ∃ b vs T, F.β m = some b ∧ B ≤ b ∧ F.U b = 0 ∧ w.heap[b]? = some (.cells vs ty (0, 0)) ∧ Tcs w F.U B vs.toList cs T ∧ (∀ k, ¬ T k b) ∧ ∀ b', F.S m b' ↔ (b' = b ∨ ∃ k, T k b')
  | .sv cs => ∃ vs T, F.γ m = .agg vs ∧ Tcs w F.U B vs.toList cs T ∧ ∀ b, F.S m b ↔ ∃ k, T k b
  | .mp ents => ∃ b es c, F.γ m = .map (some b) ∧ B ≤ b ∧ F.U b = 0 ∧ w.heap[b]? = some (.map es c) ∧ Ents w F.U es.toList ents ∧ (∀ b', F.S m b' ↔ b' = b) ∧ MapKept.Stamped es c
  | .it s p => ∃ b, F.γ m = .pointer (some ⟨b, 0, none⟩) ∧ B ≤ b ∧ F.U b = 0 ∧ w.heap[b]? = some (.stringIter s p) ∧ ∀ b', F.S m b' ↔ b' = b
  | .mi left cur => ∃ b r es c since seen last, F.γ m = .pointer (some ⟨b, 0, none⟩) ∧ B ≤ b ∧ F.U b = 0 ∧ w.heap[b]? = some (.mapIter (some r) since seen last) ∧ (∀ b', F.S m b' ↔ b' = b) ∧ w.heap[r]? = some (.map es c) ∧ 0 < F.U r ∧ MapKept.Stamped es since ∧ since ≤ last ∧ since ≤ c ∧ Ents w F.U (es.toList.filter fun e => !seen.contains e.born) left ∧ Cur w F.U es c last seen cur
  | .pin H V Q => (∀ b, F.S m b ↔ Q b) ∧ ∀ b, Q b → B ≤ b ∧ b < w.heap.size ∧ w.heap[b]? = H.heap[b]? ∧ F.U b = V b
structure AS where
  t : Nat → AV
  n : Nat → Ob
structure Fits (w0 : World) (U0 : Nat → Nat) (σ : AS) (a : Act) (w : World) (F : Fr) : Prop where
  u : ∀ b, b < w0.heap.size → F.U b = U0 b
  t : ∀ t, Rav w F (σ.t t) (a.tmps.getD t undef)
  n : ∀ m, Rob w0.heap.size w F m (σ.n m)
  i : ∀ m m' b, (σ.n m).live = true → (σ.n m').live = true → F.S m b → F.S m' b → m = m'
structure St (N : Nat) (w0 : World) (U0 : Nat → Nat) (σ : AS) (a : Act) (w : World) : Prop where
  d : a.defers = []
  s : a.tmps.size = N
  b : Below w0.heap.size w0 w
  f : ∃ F, Fits w0 U0 σ a w F
/-- what the names own stays as it is -/
def Kept (w : World) (F : Fr) (w' : World) (U' : Nat → Nat) (m : Nat) : Prop := ∀ b, F.S m b → b < w.heap.size → w'.heap[b]? = w.heap[b]? ∧ U' b = F.U b
theorem ownsRow_up {w w' : World} {base : Nat} {e : TypeId} {size : Nat} {v : Value} {n : Nat} {xs : List Value} (h : w.ownsRow base e size v n xs) (hb : ∀ g, v.ownBlock = some g → w'.heap[g]? = w.heap[g]?) : w'.ownsRow base e size v n xs := by
  refine ⟨h.1, ?_⟩
  rcases h.2 with h0 | ⟨g, cap, cur, h1, h2, h3, h4⟩
  · exact .inl h0
  · exact .inr ⟨g, cap, cur, h1, h2, (hb g (by rw [h1]; rfl)).trans h3, h4⟩
theorem Toc.ext {w w' : World} {U U' : Nat → Nat} {B : Nat} (hE : Ext w U w' U') {u : Value} {T : Nat → Prop} {c : OC} (hT : ∀ b, T b → b < w.heap.size → w'.heap[b]? = w.heap[b]? ∧ U' b = U b) (h : Toc w U B u T c) : Toc w' U' B u T c := by
  cases c with
  | un => exact h
  | dv x => exact ⟨h.1.ext hE, h.2⟩
  | ow e z rows =>
    obtain ⟨xs, h1, h2, h3, h4, h5⟩ := h
    refine ⟨xs, ownsRow_up h1 (fun g hg => (hT g ((h4 g).2 hg) (h1.lt g hg).2).1), h2.ext hE, h3, h4, fun b hb => ?_⟩
    exact ((hT b ((h4 b).2 hb) (h1.lt b hb).2).2).trans (h5 b hb)
theorem Tcs.ext {w w' : World} {U U' : Nat → Nat} {B : Nat} (hE : Ext w U w' U') {us : List Value} {cs : List OC} {T : Nat → Nat → Prop} (hT : ∀ k b, T k b → b < w.heap.size → w'.heap[b]? = w.heap[b]? ∧ U' b = U b) (h : Tcs w U B us cs T) : Tcs w' U' B us cs T :=
  ⟨h.l, fun k u c h1 h2 => (h.c k u c h1 h2).ext hE (hT k), h.o, h.d, h.b⟩
theorem Toc.lt {w : World} {U : Nat → Nat} {B : Nat} {u : Value} {T : Nat → Prop} {c : OC} (h : Toc w U B u T c) {b : Nat} (hb : T b) : B ≤ b ∧ b < w.heap.size := by
  cases c with
  | un => exact absurd hb (h b)
  | dv x => exact absurd hb (h.2 b)
  | ow e z rows =>
    obtain ⟨xs, h1, _, _, h4, _⟩ := h
    exact h1.lt b ((h4 b).1 hb)
theorem Tcs.lt {w : World} {U : Nat → Nat} {B : Nat} {us : List Value} {cs : List OC} {T : Nat → Nat → Prop} (h : Tcs w U B us cs T) {k b : Nat} (hb : T k b) : B ≤ b ∧ b < w.heap.size := by
  have hk := h.b k b hb
  have hl := h.l
  exact (h.c k _ _ (List.getElem?_eq_getElem hk) (List.getElem?_eq_getElem (by omega))).lt hb
/-- what a name owns lies in the heap, behind the base -/
theorem Rob.lt {B : Nat} {w : World} {F : Fr} {m : Nat} {o : Ob} (h : Rob B w F m o) (hl : o.live = true) {b : Nat} (hb : F.S m b) : B ≤ b ∧ b < w.heap.size := by
  cases o with
  | no => cases hl
  | bx ty cs =>
    obtain ⟨b', vs, _, h2, _, h4, _, h6⟩ := h
    rw [(h6 b).1 hb]
    exact ⟨h2, (Array.getElem?_eq_some_iff.1 h4).1⟩
  | ow e z rows =>
    obtain ⟨xs, h1, _, _, h4, _⟩ := h
    exact h1.lt b ((h4 b).1 hb)
  | tr e z rows =>
    obtain ⟨xs, T, h1, h2, _, _, h5⟩ := h
    rcases (h5 b).1 hb with h6 | ⟨k, h6⟩
    · exact h1.lt b h6
    · exact h2.lt h6
  | bt ty cs =>
    obtain ⟨b', vs, T, _, h2, _, h4, h5, _, h7⟩ := h
    rcases (h7 b).1 hb with h6 | ⟨k, h6⟩
    · rw [h6]; exact ⟨h2, (Array.getElem?_eq_some_iff.1 h4).1⟩
    · exact h5.lt h6
  | sv cs =>
    obtain ⟨vs, T, _, h2, h3⟩ := h
    obtain ⟨k, h6⟩ := (h3 b).1 hb
    exact h2.lt h6
  | mp ents =>
    obtain ⟨b', es, c, _, h2, _, h4, _, h6, _⟩ := h
    rw [(h6 b).1 hb]
    exact ⟨h2, (Array.getElem?_eq_some_iff.1 h4).1⟩
  | it s p =>
    obtain ⟨b', _, h2, _, h4, h6⟩ := h
    rw [(h6 b).1 hb]
    exact ⟨h2, (Array.getElem?_eq_some_iff.1 h4).1⟩
  | mi left cur =>
    obtain ⟨b', _, _, _, _, _, _, _, h2, _, h4, h6, _⟩ := h
    rw [(h6 b).1 hb]
    exact ⟨h2, (Array.getElem?_eq_some_iff.1 h4).1⟩
  | pin H V Q =>
    obtain ⟨h1, h2⟩ := h
    obtain ⟨h3, h4, _⟩ := h2 b ((h1 b).1 hb)
    exact ⟨h3, h4⟩
theorem Rxa.ext {w w' : World} {F : Fr} {U' : Nat → Nat} (hE : Ext w F.U w' U') {c : XA} {v : Value} (h : Rxa w F c v) : Rxa w' { F with U := U' } c v := by
  cases c with
  | d x => exact Rd.ext hE h
  | p m => exact h
  | q m x => exact h
theorem Rxa.swap {w : World} {F F' : Fr} {c : XA} {v : Value} (hU : F'.U = F.U) (hβ : ∀ m, c.says m = true → F'.β m = F.β m) (h : Rxa w F c v) : Rxa w F' c v := by
  cases c with
  | d x => show Rd w F'.U v x; rw [hU]; exact h
  | p m => obtain ⟨b, h1, h2⟩ := h; exact ⟨b, (hβ m (by simp [XA.says])).trans h1, h2⟩
  | q m x => obtain ⟨h0, b, h1, h2⟩ := h; exact ⟨h0, b, (hβ m (by simp [XA.says])).trans h1, h2⟩
theorem Rxa.ren {w : World} {F F' : Fr} {ρ : Nat → Nat} {c : XA} {v : Value} (hU : F'.U = F.U) (hβ : ∀ m, F'.β m = F.β (ρ m)) (h : Rxa w F (c.ren ρ) v) : Rxa w F' c v := by
  cases c with
  | d x => show Rd w F'.U v x; rw [hU]; exact h
  | p m => obtain ⟨b, h1, h2⟩ := h; exact ⟨b, (hβ m).trans h1, h2⟩
  | q m x => obtain ⟨h0, b, h1, h2⟩ := h; exact ⟨h0, b, (hβ m).trans h1, h2⟩
theorem Rav.ext {w w' : World} {F : Fr} {U' : Nat → Nat} (hE : Ext w F.U w' U') {x : AV} {v : Value} (h : Rav w F x v) : Rav w' { F with U := U' } x v := by
  cases x with
  | un => trivial
  | d x => exact Rd.ext hE h
  | pt m o => exact h
  | pe m z i j => exact h
  | pv m x => exact h
  | pw m x => exact h
  | wn m k z => exact h
  | ow m => exact h
  | tu cs => obtain ⟨vs, e, hv⟩ := h; exact ⟨vs, e, hv.ext hE⟩
  | cl f cs => obtain ⟨vs, e, hl, hv⟩ := h; exact ⟨vs, e, hl, fun j u c h1 h2 => (hv j u c h1 h2).ext hE⟩
theorem Rob.ext {B : Nat} {w w' : World} {F : Fr} {U' : Nat → Nat} (hE : Ext w F.U w' U') {m : Nat} {o : Ob} (hb : Kept w F w' U' m) (h : Rob B w F m o) : Rob B w' { F with U := U' } m o := by
  cases o with
  | no => trivial
  | bx ty cs =>
    obtain ⟨b, vs, h1, h2, h3, h4, h5, h6⟩ := h
    have hlt : b < w.heap.size := (Array.getElem?_eq_some_iff.1 h4).1
    obtain ⟨h7, h8⟩ := hb b ((h6 b).2 rfl) hlt
    exact ⟨b, vs, h1, h2, h8.trans h3, h7.trans h4, h5.ext hE, h6⟩
  | ow e z rows =>
    obtain ⟨xs, h1, h2, h3, h4, h5⟩ := h
    refine ⟨xs, ownsRow_up h1 (fun g hg => (hb g ((h4 g).2 hg) (h1.lt g hg).2).1), h2.ext hE, h3, h4, fun b hbb => ?_⟩
    exact (hb b hbb (h1.lt b ((h4 b).1 hbb)).2).2.trans (h5 b hbb)
  | tr e z rows =>
    obtain ⟨xs, T, h1, h2, h3, h4, h5⟩ := h
    refine ⟨xs, T, ownsRow_up h1 (fun g hg => (hb g ((h5 g).2 (.inl hg)) (h1.lt g hg).2).1), h2.ext hE (fun k b hk hlt => hb b ((h5 b).2 (.inr ⟨k, hk⟩)) hlt), h3, fun b hbb => ⟨?_, (h4 b hbb).2⟩, h5⟩
    exact (hb b ((h5 b).2 (.inl hbb)) (h1.lt b hbb).2).2.trans (h4 b hbb).1
  | bt ty cs =>
    obtain ⟨b, vs, T, h1, h2, h3, h4, h5, h6, h7⟩ := h
    have hlt : b < w.heap.size := (Array.getElem?_eq_some_iff.1 h4).1
    obtain ⟨h8, h9⟩ := hb b ((h7 b).2 (.inl rfl)) hlt
    exact ⟨b, vs, T, h1, h2, h9.trans h3, h8.trans h4, h5.ext hE (fun k b' hk hlt => hb b' ((h7 b').2 (.inr ⟨k, hk⟩)) hlt), h6, h7⟩
  | sv cs =>
    obtain ⟨vs, T, h1, h2, h3⟩ := h
    exact ⟨vs, T, h1, h2.ext hE (fun k b hk hlt => hb b ((h3 b).2 ⟨k, hk⟩) hlt), h3⟩
  | mp ents =>
    obtain ⟨b, es, c, h1, h2, h3, h4, h5, h6, hst⟩ := h
    have hlt : b < w.heap.size := (Array.getElem?_eq_some_iff.1 h4).1
    obtain ⟨h7, h8⟩ := hb b ((h6 b).2 rfl) hlt
    exact ⟨b, es, c, h1, h2, h8.trans h3, h7.trans h4, h5.ext hE, h6, hst⟩
  | it s p =>
    obtain ⟨b, h1, h2, h3, h4, h6⟩ := h
    have hlt : b < w.heap.size := (Array.getElem?_eq_some_iff.1 h4).1
    obtain ⟨h7, h8⟩ := hb b ((h6 b).2 rfl) hlt
    exact ⟨b, h1, h2, h8.trans h3, h7.trans h4, h6⟩
  | mi left cur =>
    obtain ⟨b, r, es, c, since, seen, last, h1, h2, h3, h4, h6, g1, g2, g3, g4, g5, g6, g7⟩ := h
    have hlt : b < w.heap.size := (Array.getElem?_eq_some_iff.1 h4).1
    obtain ⟨h7, h8⟩ := hb b ((h6 b).2 rfl) hlt
    obtain ⟨k1, k2⟩ := hE.m r es c g1 g2
    exact ⟨b, r, es, c, since, seen, last, h1, h2, h8.trans h3, h7.trans h4, h6, k1.trans g1, Nat.lt_of_lt_of_eq g2 k2.symm, g3, g4, g5, g6.ext hE, g7.ext hE⟩
  | pin H V Q =>
    obtain ⟨h1, h2⟩ := h
    refine ⟨h1, fun b hq => ?_⟩
    obtain ⟨h3, h4, h5, h6⟩ := h2 b hq
    obtain ⟨h7, h8⟩ := hb b ((h1 b).2 hq) h4
    refine ⟨h3, ?_, h7.trans h5, h8.trans h6⟩
    have h9 := h7
    rw [Array.getElem?_eq_getElem h4] at h9
    exact (Array.getElem?_eq_some_iff.1 h9).1
/-- the frame in a world that has grown -/
theorem Fits.up {w0 : World} {U0 : Nat → Nat} {σ : AS} {a : Act} {w w' : World} {F : Fr} {U' : Nat → Nat} (h : Fits w0 U0 σ a w F) (hs : w0.heap.size ≤ w.heap.size) (hu : Up w F.U w' U') : Fits w0 U0 σ a w' { F with U := U' } :=
  ⟨fun b hb => (hu.u b (by omega)).trans (h.u b hb), fun t => (h.t t).ext hu.ext, fun m => (h.n m).ext hu.ext (fun b _ hlt => ⟨hu.h b hlt, hu.u b hlt⟩), h.i⟩
/-- an operand -/
def AS.ev (σ : AS) : Operand → AV
  | .tmp t => σ.t t
  | .const v => .d (.fl v)
  | .func f => .d (.fn f [])
  | _ => .un
theorem Fits.ev {w0 : World} {U0 : Nat → Nat} {σ : AS} {a : Act} {w : World} {F : Fr} (h : Fits w0 U0 σ a w F) (x : Operand) : Rav w F (σ.ev x) (a.eval x) := by
  cases x with
  | tmp t => exact h.t t
  | const v => exact Rd.fl v
  | global g => trivial
  | func f => exact Rd.fn f #[] [] rfl (fun j u x h => by simp at h)
/-- what an operation does to the state -/
structure Eff where
  tw : Option (Nat × AV)
  nw : List (Nat × Ob)
  rn : List Nat
  fr : List Nat
def AV.says : AV → Nat → Bool
  | .pt m _, k => m == k
  | .pe m _ _ _, k => m == k
  | .ow m, k => m == k
  | .pv m _, k => m == k
  | .pw m _, k => m == k
  | .wn m _ _, k => m == k
  | .cl _ cs, k => cs.any (·.says k)
  | _, _ => false
theorem Rav.clSwap {w : World} {F F' : Fr} {f : FuncId} {cs : List XA} {v : Value} (hU : F'.U = F.U) (hβ : ∀ m, (AV.cl f cs).says m = true → F'.β m = F.β m) (h : Rav w F (.cl f cs) v) : Rav w F' (.cl f cs) v := by
  obtain ⟨vs, e, hl, hv⟩ := h
  exact ⟨vs, e, hl, fun j u c h1 h2 => (hv j u c h1 h2).swap hU (fun m hm => hβ m (List.any_eq_true.2 ⟨c, List.mem_of_getElem? h2, hm⟩))⟩
def nwGet : List (Nat × Ob) → Nat → Option Ob
  | [], _ => none
  | (k, o) :: l, m => bif Nat.beq k m then some o else nwGet l m
def Eff.ap (e : Eff) (σ : AS) : AS where
  t := fun t => match e.tw with
    | some (d, v) => bif Nat.beq d t then v else σ.t t
    | none => σ.t t
  n := fun m => (nwGet e.nw m).getD (σ.n m)
def fresh (σ : AS) (m : Nat) : Prop := σ.n m = .no ∧ ∀ t, (σ.t t).says m = false
def tmpsOf (o : Oper) : List Tmp := o.op.operands.toList.filterMap fun | .tmp t => some t | _ => none
/-- a state at which the operation does the same -/
structure Eff.ok (e : Eff) (o : Oper) (σ σ' : AS) : Prop where
  t : ∀ t ∈ tmpsOf o, σ'.t t = σ.t t
  n : ∀ m ∈ e.rn, σ'.n m = σ.n m
  f : ∀ m ∈ e.fr, fresh σ' m
def OpS (P : Program) (N : Nat) (w0 : World) (U0 : Nat → Nat) (o : Oper) (σ : AS) (e : Eff) : Prop :=
  ∀ σ', e.ok o σ σ' → ∀ a w, St N w0 U0 σ' a w → ∀ K Q, (∀ a' w', St N w0 U0 (e.ap σ') a' w' → K a' w') → o.wp P a w K Q
theorem Eff.ok.refl {e : Eff} {o : Oper} {σ : AS} (h : ∀ m ∈ e.fr, fresh σ m) : e.ok o σ σ := ⟨fun _ _ => rfl, fun _ _ => rfl, h⟩
theorem ev_ok {e : Eff} {o : Oper} {σ σ' : AS} (h : e.ok o σ σ') {x : Operand} (hx : x ∈ o.op.operands) : σ'.ev x = σ.ev x := by
  cases x with
  | tmp t => exact h.t t (by unfold tmpsOf; rw [List.mem_filterMap]; exact ⟨_, by simpa using hx, rfl⟩)
  | _ => rfl
end Go.Proofs.Ytobgdemhadlgnaa.Av

namespace Go.Proofs.Ytobgdemhadlgnaa.Av
open Go Go.RowKit
section
variable {P : Program} {N : Nat} {w0 : World} {U0 : Nat → Nat}
/-- an operation with its guard -/
def OpG (P : Program) (N : Nat) (w0 : World) (U0 : Nat → Nat) (ops : Array Oper) (o : Oper) (σ : AS) (e : Eff) : Prop :=
  match o.guard with
  | none => OpS P N w0 U0 o σ e
  | some (j, want) => ∃ d u, ((ops[j]?).bind (·.dst)) = some d ∧ σ.t d = .d (.fl u) ∧ ((u = .bool want ∧ OpS P N w0 U0 o σ e) ∨ ((∀ b, u = .bool b → b ≠ want) ∧ e = ⟨o.dst.map fun d => (d, .d (.fl undef)), [], [], []⟩))
def tmpsG (ops : Array Oper) (o : Oper) : List Tmp := tmpsOf o ++ (match o.guard with | some (j, _) => ((ops[j]?).bind (·.dst)).toList | none => [])
theorem nbeq {a b : Nat} (h : a ≠ b) : Nat.beq a b = false := by
  cases hb : Nat.beq a b with
  | false => rfl
  | true => exact absurd (Nat.eq_of_beq_eq_true hb) h
theorem Fits.put_un {σ : AS} {a : Act} {w : World} {F : Fr} (h : Fits w0 U0 σ a w F) (d : Option Nat) : Fits w0 U0 ((⟨d.map fun d => (d, .d (.fl undef)), [], [], []⟩ : Eff).ap σ) (a.put d undef) w F := by
  refine ⟨h.u, fun t => ?_, h.n, h.i⟩
  cases d with
  | none => exact h.t t
  | some d =>
    show Rav w F (bif Nat.beq d t then AV.d (.fl undef) else σ.t t) ((a.tmps.setIfInBounds d undef).getD t undef)
    by_cases hd : d = t
    · subst hd
      rw [Nat.beq_refl]
      have : (a.tmps.setIfInBounds d undef).getD d undef = undef := by
        rw [Array.getD_eq_getD_getElem?, Array.getElem?_setIfInBounds]
        split
        · split <;> rfl
        · cases a.tmps[d]? <;> simp_all
      rw [this]
      exact Rd.fl undef
    · have hb : Nat.beq d t = false := nbeq hd
      rw [hb]
      have := h.t t
      simpa [Array.getElem?_setIfInBounds_ne hd] using this
theorem put_size (a : Act) (d : Option Nat) (v : Value) : (a.put d v).tmps.size = a.tmps.size := by cases d <;> simp [Act.put]
theorem put_defers (a : Act) (d : Option Nat) (v : Value) : (a.put d v).defers = a.defers := by cases d <;> rfl
/-- what is read of the state, guard and all -/
structure Eff.okG (e : Eff) (ops : Array Oper) (o : Oper) (σ σ' : AS) : Prop where
  t : ∀ t ∈ tmpsG ops o, σ'.t t = σ.t t
  n : ∀ m ∈ e.rn, σ'.n m = σ.n m
  f : ∀ m ∈ e.fr, fresh σ' m
theorem opG_run {ops : Array Oper} {i : Nat} {o : Oper} {σ σ' : AS} {e : Eff} (ho : ops[i]? = some o) (h : OpG P N w0 U0 ops o σ e) (hk : e.okG ops o σ σ') {a : Act} {w : World} (hs : St N w0 U0 σ' a w)
    {K : Act → World → Prop} {Q : Exit → Act → World → Prop} (hK : ∀ a' w', St N w0 U0 (e.ap σ') a' w' → K a' w') : wpOp P ops Q i K a w := by
  unfold wpOp
  rw [ho]
  simp only
  have hok : e.ok o σ σ' := ⟨fun t ht => hk.t t (List.mem_append.2 (.inl ht)), hk.n, hk.f⟩
  unfold OpG at h
  cases hg : o.guard with
  | none =>
    rw [hg] at h
    have hw : Region.wanted o (yielded ops a.tmps) = true := by simp [Region.wanted, hg]
    rw [if_pos hw]
    exact .inl (h σ' hok a w hs K Q hK)
  | some g =>
    obtain ⟨j, want⟩ := g
    rw [hg] at h
    obtain ⟨d, u, h1, h2, h3⟩ := h
    have hd : σ'.t d = .d (.fl u) := by
      rw [hk.t d (by unfold tmpsG; rw [hg]; exact List.mem_append.2 (.inr (by simp [h1]))), h2]
    obtain ⟨F, hF⟩ := hs.f
    have hv : a.tmps.getD d undef = u := by
      have := hF.t d
      rw [hd] at this
      generalize hx : a.tmps.getD d undef = x at this ⊢
      cases this
      rfl
    have hy : ∀ b, yielded ops a.tmps j = some b ↔ u = .bool b := by
      intro b
      unfold yielded
      rw [h1]
      simp only [Option.bind_some]
      rw [Array.getD_eq_getD_getElem?] at hv
      cases hq : a.tmps[d]? with
      | none => rw [hq] at hv; subst hv; simp [undef]
      | some x => rw [hq] at hv; simp at hv; subst hv; cases x <;> simp
    rcases h3 with ⟨h3, h4⟩ | ⟨h3, rfl⟩
    · rw [if_pos (by simp [Region.wanted, hg, (hy want).2 h3])]
      exact .inl (h4 σ' hok a w hs K Q hK)
    · rw [if_neg (by
        simp only [Region.wanted, hg, beq_iff_eq]
        exact fun h => h3 want ((hy want).1 h) rfl)]
      exact hK _ _ ⟨by rw [put_defers]; exact hs.d, by rw [put_size]; exact hs.s, hs.b, F, hF.put_un _⟩
/-! ### in the text's order -/
structure RG (P : Program) (N : Nat) (w0 : World) (U0 : Nat → Nat) (ops : Array Oper) (k : Nat) (σ : AS) (R : AS → Prop) : Prop where
  go : ∀ a w, St N w0 U0 σ a w → ∀ Q, (∀ σ' a' w', R σ' → St N w0 U0 σ' a' w' → Q Exit.normal a' w') → wpOps P ops Q ((List.range (ops.size - k)).map (· + k)) a w
theorem rg_done {ops : Array Oper} {k : Nat} {σ : AS} {R : AS → Prop} (hk : k = ops.size) (h : R σ) : RG P N w0 U0 ops k σ R := by
  refine ⟨fun a w hs Q hQ => ?_⟩
  subst hk
  simp only [Nat.sub_self, List.range_zero, List.map_nil, wpOps]
  exact hQ _ _ _ h hs
theorem rg_step {ops : Array Oper} {k : Nat} {o : Oper} {σ : AS} {e : Eff} {R : AS → Prop} (ho : ops[k]? = some o) (h : OpG P N w0 U0 ops o σ e) (hf : ∀ m ∈ e.fr, fresh σ m) (hr : RG P N w0 U0 ops (k + 1) (e.ap σ) R) : RG P N w0 U0 ops k σ R := by
  refine ⟨fun a w hs Q hQ => ?_⟩
  have hlt : k < ops.size := (Array.getElem?_eq_some_iff.1 ho).1
  have e1 : ((List.range (ops.size - k)).map (· + k)) = k :: ((List.range (ops.size - (k + 1))).map (· + (k + 1))) := by
    rw [show ops.size - k = (ops.size - (k + 1)) + 1 by omega, List.range_succ_eq_map]
    simp only [List.map_cons, Nat.zero_add, List.map_map, List.cons.injEq, true_and]
    apply List.map_congr_left
    intro x _
    show x + 1 + k = x + (k + 1)
    omega
  rw [e1, wpOps_cons]
  exact opG_run ho h ⟨fun _ _ => rfl, fun _ _ => rfl, hf⟩ hs (fun a' w' hs' => hr.go a' w' hs' Q hQ)
theorem rg_region {ops : Array Oper} {id : Nat} {σ : AS} {R : AS → Prop} (h : RG P N w0 U0 ops 0 σ R) {a : Act} {w : World} (hs : St N w0 U0 σ a w) {Q : Exit → Act → World → Prop} (hQ : ∀ σ' a' w', R σ' → St N w0 U0 σ' a' w' → Q Exit.normal a' w') :
    (Code.region id ops false).wp P Q a w := by
  refine wp_region ?_
  have := h.go a w hs Q hQ
  simpa using this
/-! ### in a drawn order -/
/-- what an operation reads and writes, without the values -/
structure Sk where
  tw : Option Nat
  nw : List Nat
  rn : List Nat
  fr : List Nat
  sy : List Nat
def AV.names : AV → List Nat
  | .pt m _ => [m]
  | .pe m _ _ _ => [m]
  | .pv m _ => [m]
  | .pw m _ => [m]
  | .wn m _ _ => [m]
  | .ow m => [m]
  | .cl _ cs => cs.filterMap fun | .p m => some m | .q m _ => some m | _ => none
  | _ => []
theorem AV.says_names (v : AV) (k : Nat) (h : v.names.contains k = false) : v.says k = false := by
  cases v with
  | pt m o =>
    show (m == k) = false
    simp [AV.names] at h
    simp
    omega
  | pe m z i j =>
    show (m == k) = false
    simp [AV.names] at h
    simp
    omega
  | pv m x =>
    show (m == k) = false
    simp [AV.names] at h
    simp
    omega
  | pw m x =>
    show (m == k) = false
    simp [AV.names] at h
    simp
    omega
  | wn m i z =>
    show (m == k) = false
    simp [AV.names] at h
    simp
    omega
  | ow m =>
    show (m == k) = false
    simp [AV.names] at h
    simp
    omega
  | cl f cs =>
    show cs.any (·.says k) = false
    rw [List.any_eq_false]
    intro c hc hs
    cases c with
    | d x => cases hs
    | p m =>
      have hmk : m = k := by simpa [XA.says] using hs
      subst hmk
      have : m ∈ (cs.filterMap fun | .p m => some m | .q m _ => some m | _ => none) := List.mem_filterMap.2 ⟨.p m, hc, rfl⟩
      have h' : (cs.filterMap fun | .p m => some m | .q m _ => some m | _ => none).contains m = false := h
      rw [List.contains_eq_mem, decide_eq_false_iff_not] at h'
      exact h' this
    | q m x =>
      have hmk : m = k := by simpa [XA.says] using hs
      subst hmk
      have : m ∈ (cs.filterMap fun | .p m => some m | .q m _ => some m | _ => none) := List.mem_filterMap.2 ⟨.q m x, hc, rfl⟩
      have h' : (cs.filterMap fun | .p m => some m | .q m _ => some m | _ => none).contains m = false := h
      rw [List.contains_eq_mem, decide_eq_false_iff_not] at h'
      exact h' this
  | _ => rfl
def Eff.sk (e : Eff) : Sk := ⟨e.tw.map (·.1), e.nw.map (·.1), e.rn, e.fr, match e.tw with | some (_, v) => v.names | none => []⟩
def disj (a b : List Nat) : Bool := a.all fun x => !b.contains x
/-- the second may run beside the first -/
def half (ops : Array Oper) (x y : Sk) (oy : Oper) : Bool :=
  (match x.tw with | some d => !(tmpsG ops oy).contains d && y.tw != some d | none => true) && disj x.nw y.nw && disj x.nw y.rn
def bfB (ops : Array Oper) : Nat → Nat → Nat → Bool
  | 0, _, _ => false
  | n + 1, i, j => match ops[j]? with
    | none => false
    | some o => o.after.any fun e => Region.binds .any e && (e.on == i || bfB ops n i e.on)
def upB' (ops : Array Oper) : Bool := (List.range ops.size).all fun j => match ops[j]? with
  | none => true
  | some o => o.after.all fun e => !Region.binds .any e || decide (e.on < j)
def sepB (ops : Array Oper) (sk : List Sk) : Bool :=
  upB' ops && (List.range ops.size).all fun j => (List.range j).all fun i =>
    match sk[i]?, sk[j]?, ops[i]?, ops[j]? with
      | some x, some y, some oi, some oj => disj y.fr x.nw && disj y.fr x.sy && (bfB ops ops.size i j || (half ops x y oj && half ops y x oi && disj x.fr y.nw && disj x.fr y.sy))
      | _, _, _, _ => false
def ovs (pl : Nat → Eff) (p : Nat → Bool) (σ : AS) : Nat → AS
  | 0 => σ
  | k + 1 => if p k then (pl k).ap (ovs pl p σ k) else ovs pl p σ k
def wT (e : Eff) (t : Nat) : Bool := e.tw.any fun x => Nat.beq x.1 t
def wN (e : Eff) (m : Nat) : Bool := (nwGet e.nw m).isSome
theorem ap_t_no {e : Eff} {σ : AS} {t : Nat} (h : wT e t = false) : (e.ap σ).t t = σ.t t := by
  unfold Eff.ap
  simp only
  unfold wT at h
  cases he : e.tw with
  | none => rfl
  | some x => rw [he] at h; simp only [Option.any_some] at h; simp only [h, cond_false]
theorem ap_t_yes {e : Eff} {σ σ' : AS} {t : Nat} (h : wT e t = true) : (e.ap σ).t t = (e.ap σ').t t := by
  unfold Eff.ap
  simp only
  unfold wT at h
  cases he : e.tw with
  | none => rw [he] at h; simp at h
  | some x => rw [he] at h; simp only [Option.any_some] at h; simp only [h, cond_true]
theorem ap_n_no {e : Eff} {σ : AS} {m : Nat} (h : wN e m = false) : (e.ap σ).n m = σ.n m := by
  unfold Eff.ap
  simp only
  unfold wN at h
  cases he : nwGet e.nw m with
  | none => rfl
  | some x => rw [he] at h; simp at h
theorem ap_n_yes {e : Eff} {σ σ' : AS} {m : Nat} (h : wN e m = true) : (e.ap σ).n m = (e.ap σ').n m := by
  unfold Eff.ap
  simp only
  unfold wN at h
  cases he : nwGet e.nw m with
  | none => rw [he] at h; simp at h
  | some x => rfl
theorem ovs_t {pl : Nat → Eff} {p q : Nat → Bool} {σ : AS} {t : Nat} : ∀ n, (∀ k, k < n → wT (pl k) t = true → p k = q k) → (ovs pl p σ n).t t = (ovs pl q σ n).t t := by
  intro n
  induction n with
  | zero => intro _; rfl
  | succ n ih =>
    intro h
    have ih' := ih (fun k hk => h k (by omega))
    simp only [ovs]
    cases hw : wT (pl n) t with
    | false =>
      have e1 : ∀ r : Nat → Bool, (if r n then (pl n).ap (ovs pl r σ n) else ovs pl r σ n).t t = (ovs pl r σ n).t t := by
        intro r
        split
        · exact ap_t_no hw
        · rfl
      rw [e1 p, e1 q, ih']
    | true =>
      rw [h n (by omega) hw]
      split
      · exact ap_t_yes hw
      · exact ih'
theorem ovs_n {pl : Nat → Eff} {p q : Nat → Bool} {σ : AS} {m : Nat} : ∀ n, (∀ k, k < n → wN (pl k) m = true → p k = q k) → (ovs pl p σ n).n m = (ovs pl q σ n).n m := by
  intro n
  induction n with
  | zero => intro _; rfl
  | succ n ih =>
    intro h
    have ih' := ih (fun k hk => h k (by omega))
    simp only [ovs]
    cases hw : wN (pl n) m with
    | false =>
      have e1 : ∀ r : Nat → Bool, (if r n then (pl n).ap (ovs pl r σ n) else ovs pl r σ n).n m = (ovs pl r σ n).n m := by
        intro r
        split
        · exact ap_n_no hw
        · rfl
      rw [e1 p, e1 q, ih']
    | true =>
      rw [h n (by omega) hw]
      split
      · exact ap_n_yes hw
      · exact ih'
/-- one more operation, behind which none writes what it writes -/
theorem ovs_ins {pl : Nat → Eff} {p q : Nat → Bool} {σ : AS} {i n : Nat} (hi : i < n) (hp : p i = false) (hq : ∀ k, q k = (p k || k == i))
    (hT : ∀ k t, i < k → k < n → p k = true → wT (pl i) t = true → wT (pl k) t = false) (hN : ∀ k m, i < k → k < n → p k = true → wN (pl i) m = true → wN (pl k) m = false) :
    ovs pl q σ n = (pl i).ap (ovs pl p σ n) := by
  have key : ∀ n, i < n → (∀ k t, i < k → k < n → p k = true → wT (pl i) t = true → wT (pl k) t = false) → (∀ k m, i < k → k < n → p k = true → wN (pl i) m = true → wN (pl k) m = false) →
      (∀ t, (ovs pl q σ n).t t = ((pl i).ap (ovs pl p σ n)).t t) ∧ (∀ m, (ovs pl q σ n).n m = ((pl i).ap (ovs pl p σ n)).n m) := by
    intro n
    induction n with
    | zero => intro h; omega
    | succ n ih =>
      intro hlt hT hN
      by_cases hin : i = n
      · subst hin
        have hqi : q i = true := by rw [hq]; simp
        simp only [ovs, hqi, hp, if_true, Bool.false_eq_true, if_false]
        have e1 : ∀ k, k < i → p k = q k := fun k hk => by rw [hq]; have : (k == i) = false := by simp; omega
                                                           rw [this, Bool.or_false]
        constructor
        · intro t
          cases hw : wT (pl i) t with
          | false => rw [ap_t_no hw, ap_t_no hw]; exact (ovs_t i (fun k hk _ => e1 k hk)).symm
          | true => exact ap_t_yes hw
        · intro m
          cases hw : wN (pl i) m with
          | false => rw [ap_n_no hw, ap_n_no hw]; exact (ovs_n i (fun k hk _ => e1 k hk)).symm
          | true => exact ap_n_yes hw
      · obtain ⟨h1, h2⟩ := ih (by omega) (fun k t a b => hT k t a (by omega)) (fun k m a b => hN k m a (by omega))
        have hqn : q n = p n := by rw [hq]; have : (n == i) = false := by simp; omega
                                   rw [this, Bool.or_false]
        simp only [ovs, hqn]
        cases hpn : p n with
        | false => simp only [Bool.false_eq_true, if_false]; exact ⟨h1, h2⟩
        | true =>
          simp only [if_true]
          constructor
          · intro t
            cases hw : wT (pl i) t with
            | true => rw [ap_t_no (hT n t (by omega) (by omega) hpn hw), h1 t]; exact ap_t_yes hw
            | false =>
              rw [ap_t_no hw]
              cases hwn : wT (pl n) t with
              | true => exact ap_t_yes hwn
              | false => rw [ap_t_no hwn, ap_t_no hwn, h1 t, ap_t_no hw]
          · intro m
            cases hw : wN (pl i) m with
            | true => rw [ap_n_no (hN n m (by omega) (by omega) hpn hw), h2 m]; exact ap_n_yes hw
            | false =>
              rw [ap_n_no hw]
              cases hwn : wN (pl n) m with
              | true => exact ap_n_yes hwn
              | false => rw [ap_n_no hwn, ap_n_no hwn, h2 m, ap_n_no hw]
  obtain ⟨h1, h2⟩ := key n hi hT hN
  generalize ovs pl q σ n = x at *
  generalize (pl i).ap (ovs pl p σ n) = y at *
  obtain ⟨xt, xn⟩ := x
  obtain ⟨yt, yn⟩ := y
  have e1 : xt = yt := funext h1
  have e2 : xn = yn := funext h2
  rw [e1, e2]

theorem disj_spec {a b : List Nat} (h : disj a b = true) {x : Nat} (ha : x ∈ a) (hb : x ∈ b) : False := by
  unfold disj at h
  have := List.all_eq_true.1 h x ha
  simp [hb] at this
theorem wT_sk {e : Eff} {t : Nat} (h : wT e t = true) : e.sk.tw = some t := by
  unfold wT at h
  unfold Eff.sk
  cases he : e.tw with
  | none => rw [he] at h; simp at h
  | some x => rw [he] at h; simp only [Option.any_some] at h; simp [Nat.eq_of_beq_eq_true h]
theorem nwGet_mem {l : List (Nat × Ob)} {m : Nat} (h : (nwGet l m).isSome = true) : m ∈ l.map (·.1) := by
  induction l with
  | nil => simp [nwGet] at h
  | cons x l ih =>
    unfold nwGet at h
    cases hb : Nat.beq x.1 m with
    | true => simp [Nat.eq_of_beq_eq_true hb]
    | false => rw [hb] at h; simp only [cond_false] at h; simp [ih h]
theorem wN_sk {e : Eff} {m : Nat} (h : wN e m = true) : m ∈ e.sk.nw := nwGet_mem h
theorem half_t {ops : Array Oper} {x y : Sk} {oy : Oper} (h : half ops x y oy = true) {t : Nat} (hx : x.tw = some t) : t ∉ tmpsG ops oy ∧ y.tw ≠ some t := by
  unfold half at h
  rw [hx] at h
  simp only [Bool.and_eq_true, Bool.not_eq_true', bne_iff_ne] at h
  obtain ⟨⟨⟨h1, h2⟩, _⟩, _⟩ := h
  exact ⟨fun hm => by simp [hm] at h1, h2⟩
theorem half_n {ops : Array Oper} {x y : Sk} {oy : Oper} (h : half ops x y oy = true) {m : Nat} (hx : m ∈ x.nw) : m ∉ y.nw ∧ m ∉ y.rn := by
  unfold half at h
  simp only [Bool.and_eq_true] at h
  obtain ⟨⟨_, h3⟩, h4⟩ := h
  exact ⟨fun hm => disj_spec h3 hx hm, fun hm => disj_spec h4 hx hm⟩
/-- whoever is listed has all listed that come before -/
def Closed (ops : Array Oper) (p : Nat → Bool) : Prop := ∀ j o, ops[j]? = some o → p j = true → ∀ e ∈ o.after, Region.binds .any e = true → p e.on = true
theorem bf_closed {ops : Array Oper} {p : Nat → Bool} (hc : Closed ops p) : ∀ n i j o, ops[j]? = some o → (∀ e ∈ o.after, Region.binds .any e = true → p e.on = true) → bfB ops n i j = true → p i = true := by
  intro n
  induction n with
  | zero => intro i j o _ _ h; simp [bfB] at h
  | succ n ih =>
    intro i j o ho hd h
    simp only [bfB, ho] at h
    obtain ⟨e, he, hb⟩ := Array.any_eq_true'.1 h
    simp only [Bool.and_eq_true, Bool.or_eq_true, beq_iff_eq] at hb
    obtain ⟨h1, h2⟩ := hb
    have hp := hd e he h1
    rcases h2 with h2 | h2
    · rw [← h2]; exact hp
    · cases hoe : ops[e.on]? with
      | none =>
        cases n with
        | zero => simp [bfB] at h2
        | succ n => simp [bfB, hoe] at h2
      | some o2 => exact ih i e.on o2 hoe (hc e.on o2 hoe hp) h2
structure Plan (P : Program) (N : Nat) (w0 : World) (U0 : Nat → Nat) (ops : Array Oper) (σ : AS) (pl : Nat → Eff) : Prop where
  op : ∀ i o, ops[i]? = some o → OpG P N w0 U0 ops o (ovs pl (fun _ => true) σ i) (pl i)
  fr : ∀ i, i < ops.size → ∀ m ∈ (pl i).fr, fresh σ m
  up : upB' ops = true
  sep : ∀ i j oi oj, i < j → ops[i]? = some oi → ops[j]? = some oj → disj (pl j).sk.fr (pl i).sk.nw = true ∧ disj (pl j).sk.fr (pl i).sk.sy = true ∧
    (bfB ops ops.size i j = true ∨ (half ops (pl i).sk (pl j).sk oj = true ∧ half ops (pl j).sk (pl i).sk oi = true ∧ disj (pl i).sk.fr (pl j).sk.nw = true ∧ disj (pl i).sk.fr (pl j).sk.sy = true))
theorem ovs_pre {pl : Nat → Eff} {σ : AS} {i : Nat} : ∀ n, i ≤ n → ovs pl (fun k => decide (k < i)) σ n = ovs pl (fun _ => true) σ i := by
  intro n
  induction n with
  | zero => intro h; have : i = 0 := by omega
            subst this; rfl
  | succ n ih =>
    intro h
    by_cases hi : i = n + 1
    · subst hi
      have : ∀ k, k ≤ n + 1 → ovs pl (fun k => decide (k < n + 1)) σ k = ovs pl (fun _ => true) σ k := by
        intro k
        induction k with
        | zero => intro _; rfl
        | succ k ihk => intro hk; simp only [ovs, ihk (by omega), if_true]; rw [if_pos (by simp; omega)]
      exact this _ (Nat.le_refl _)
    · simp only [ovs]
      rw [if_neg (by simp; omega)]
      exact ih (by omega)
theorem ovs_all {pl : Nat → Eff} {σ : AS} {p : Nat → Bool} : ∀ n, (∀ k, k < n → p k = true) → ovs pl p σ n = ovs pl (fun _ => true) σ n := by
  intro n
  induction n with
  | zero => intro _; rfl
  | succ n ih => intro h; simp only [ovs, ih (fun k hk => h k (by omega)), h n (by omega)]
def cnt (p : Nat → Bool) : Nat → Nat
  | 0 => 0
  | k + 1 => cnt p k + if p k then 0 else 1
theorem cnt_zero {p : Nat → Bool} : ∀ n, cnt p n = 0 → ∀ k, k < n → p k = true := by
  intro n
  induction n with
  | zero => intro _ k h; omega
  | succ n ih =>
    intro h k hk
    simp only [cnt] at h
    by_cases hkn : k = n
    · subst hkn
      cases hp : p k with
      | true => rfl
      | false => rw [hp] at h; simp at h
    · exact ih (by omega) k (by omega)
theorem cnt_pos {p : Nat → Bool} : ∀ n, cnt p n ≠ 0 → ∃ k, k < n ∧ p k = false := by
  intro n
  induction n with
  | zero => intro h; simp [cnt] at h
  | succ n ih =>
    intro h
    cases hp : p n with
    | false => exact ⟨n, by omega, hp⟩
    | true =>
      simp only [cnt, hp, if_true, Nat.add_zero] at h
      obtain ⟨k, hk, h2⟩ := ih h
      exact ⟨k, by omega, h2⟩
theorem cnt_eq {p q : Nat → Bool} : ∀ n, (∀ k, k < n → p k = q k) → cnt p n = cnt q n := by
  intro n
  induction n with
  | zero => intro _; rfl
  | succ n ih => intro h; simp only [cnt, ih (fun k hk => h k (by omega)), h n (by omega)]
theorem cnt_ins {p q : Nat → Bool} {i : Nat} (hp : p i = false) (hq : ∀ k, q k = (p k || k == i)) : ∀ n, i < n → cnt q n + 1 = cnt p n := by
  intro n
  induction n with
  | zero => intro h; omega
  | succ n ih =>
    intro h
    by_cases hin : i = n
    · subst hin
      have : cnt q i = cnt p i := cnt_eq i (fun k hk => by
        have hki : (k == i) = false := by simp; omega
        rw [hq, hki, Bool.or_false])
      simp only [cnt, this, hp, hq, beq_self_eq_true, Bool.or_true, if_true, Bool.false_eq_true, if_false]
    · have := ih (by omega)
      have hqn : q n = p n := by rw [hq]; have : (n == i) = false := by simp; omega
                                 rw [this, Bool.or_false]
      simp only [cnt, hqn]
      omega
theorem cnt_false : ∀ n, cnt (fun _ => false) n = n := by
  intro n
  induction n with
  | zero => rfl
  | succ n ih => simp only [cnt, ih, Bool.false_eq_true, if_false]
theorem up_spec {ops : Array Oper} (h : upB' ops = true) {j : Nat} {o : Oper} (ho : ops[j]? = some o) : ∀ e ∈ o.after, Region.binds .any e = true → e.on < j := by
  intro e he hb
  have hlt : j < ops.size := (Array.getElem?_eq_some_iff.1 ho).1
  unfold upB' at h
  have h1 := List.all_eq_true.1 h j (by simpa using hlt)
  simp only [ho] at h1
  have h2 := Array.all_eq_true_iff_forall_mem.1 h1 e he
  simpa [hb] using h2
/-- in whatever order -/
theorem plan_any {ops : Array Oper} {σ : AS} {pl : Nat → Eff} (hp : Plan P N w0 U0 ops σ pl) {Q : Exit → Act → World → Prop} (hQ : ∀ a w, St N w0 U0 (ovs pl (fun _ => true) σ ops.size) a w → Q Exit.normal a w) :
    ∀ fuel (listed : Array Bool), listed.size = ops.size → cnt (fun k => listed.getD k false) ops.size = fuel → Closed ops (fun k => listed.getD k false) → ∀ a w, St N w0 U0 (ovs pl (fun k => listed.getD k false) σ ops.size) a w → wpAny P .any ops Q fuel listed a w := by
  intro fuel
  induction fuel with
  | zero =>
    intro listed hsz hc hcl a w hs
    have hall := cnt_zero _ hc
    refine ⟨?_, hQ a w (by rw [ovs_all ops.size hall] at hs; exact hs)⟩
    rw [List.eq_nil_iff_forall_not_mem]
    intro j hj
    obtain ⟨h1, o, ho, _⟩ := mem_ready.1 hj
    have hlt : j < ops.size := (Array.getElem?_eq_some_iff.1 ho).1
    have := hall j hlt
    rw [Array.getD_eq_getD_getElem?, Array.getElem?_eq_getElem (by omega)] at h1 this
    simp at h1 this
    rw [h1] at this
    cases this
  | succ fuel ih =>
    intro listed hsz hc hcl a w hs
    have hgd : ∀ k, k < ops.size → listed.getD k true = listed.getD k false := fun k hk => by
      rw [Array.getD_eq_getD_getElem?, Array.getD_eq_getD_getElem?, Array.getElem?_eq_getElem (by omega)]; rfl
    refine ⟨fun hnil => ?_, fun i hi => ?_⟩
    · exfalso
      have hex : ∀ k, k < ops.size → listed.getD k false = false → ∃ j, j ∈ Region.ready .any ops listed := by
        intro k
        induction k using Nat.strongRecOn with
        | _ k ihk =>
          intro hk hkf
          obtain ⟨o, ho⟩ : ∃ o, ops[k]? = some o := ⟨_, Array.getElem?_eq_getElem hk⟩
          by_cases hd : ∀ e ∈ o.after, Region.binds .any e = true → listed.getD e.on false = true
          · exact ⟨k, mem_ready.2 ⟨by rw [hgd k hk]; exact hkf, o, ho, hd⟩⟩
          · obtain ⟨e, he, hb, hn⟩ : ∃ e, e ∈ o.after ∧ Region.binds .any e = true ∧ ¬ listed.getD e.on false = true := by
              refine Classical.byContradiction fun hne => hd fun e he hb => Classical.byContradiction fun hn => hne ⟨e, he, hb, hn⟩
            have hlt := up_spec hp.up ho e he hb
            exact ihk e.on hlt (by omega) (by simpa using hn)
      obtain ⟨k, hk, hkf⟩ := cnt_pos ops.size (by rw [hc]; omega)
      obtain ⟨j, hj⟩ := hex k hk hkf
      rw [hnil] at hj
      cases hj
    · obtain ⟨h1, o, ho, hdep⟩ := mem_ready.1 hi
      have hlt : i < ops.size := (Array.getElem?_eq_some_iff.1 ho).1
      have hpi : listed.getD i false = false := by rw [← hgd i hlt]; exact h1
      have hget : ∀ k, k < ops.size → ∃ ok, ops[k]? = some ok := fun k hk => ⟨_, Array.getElem?_eq_getElem hk⟩
      -- who is bound before i is listed; who is bound behind i is not
      have hbef : ∀ k, bfB ops ops.size k i = true → listed.getD k false = true := fun k hb => bf_closed hcl _ k i o ho hdep hb
      have haft : ∀ k, k < ops.size → bfB ops ops.size i k = true → listed.getD k false = false := fun k hk hb => by
        cases hpk : listed.getD k false with
        | false => rfl
        | true =>
          obtain ⟨ok, hok⟩ := hget k hk
          have := bf_closed hcl _ i k ok hok (hcl k ok hok hpk) hb
          rw [hpi] at this
          cases this
      have hq : ∀ k, (listed.setIfInBounds i true).getD k false = (listed.getD k false || k == i) := by
        intro k
        by_cases hki : k = i
        · subst hki
          rw [Array.getD_eq_getD_getElem?, Array.getElem?_setIfInBounds_self_of_lt (by omega)]
          simp
        · rw [getD_set_ne false (Ne.symm hki)]
          have : (k == i) = false := by simpa using hki
          rw [this, Bool.or_false]
      have hpre := ovs_pre (pl := pl) (σ := σ) (i := i) ops.size (by omega)
      have hok : (pl i).okG ops o (ovs pl (fun _ => true) σ i) (ovs pl (fun k => listed.getD k false) σ ops.size) := by
        rw [← hpre]
        refine ⟨fun t ht => ?_, fun m hm => ?_, fun m hm => ?_⟩
        · refine ovs_t ops.size (fun k hk hw => ?_)
          rcases Nat.lt_trichotomy k i with h | h | h
          · obtain ⟨ok, hok⟩ := hget k hk
            rw [decide_eq_true h]
            rcases (hp.sep k i ok o h hok ho).2.2 with hb | ⟨hb, _⟩
            · exact hbef k hb
            · exact absurd ht (half_t hb (wT_sk hw)).1
          · subst h; simp [hpi]
          · obtain ⟨ok, hok⟩ := hget k hk
            rw [decide_eq_false (by omega)]
            rcases (hp.sep i k o ok h ho hok).2.2 with hb | ⟨_, hb, _⟩
            · exact haft k hk hb
            · exact absurd ht (half_t hb (wT_sk hw)).1
        · refine ovs_n ops.size (fun k hk hw => ?_)
          rcases Nat.lt_trichotomy k i with h | h | h
          · obtain ⟨ok, hok⟩ := hget k hk
            rw [decide_eq_true h]
            rcases (hp.sep k i ok o h hok ho).2.2 with hb | ⟨hb, _⟩
            · exact hbef k hb
            · exact absurd hm (half_n hb (wN_sk hw)).2
          · subst h; simp [hpi]
          · obtain ⟨ok, hok⟩ := hget k hk
            rw [decide_eq_false (by omega)]
            rcases (hp.sep i k o ok h ho hok).2.2 with hb | ⟨_, hb, _⟩
            · exact haft k hk hb
            · exact absurd hm (half_n hb (wN_sk hw)).2
        · have hf := hp.fr i hlt m hm
          have hno : ∀ k, k < ops.size → listed.getD k false = true → (wN (pl k) m = false ∧ (match (pl k).tw with | some (_, v) => v.says m | none => false) = false) := by
            intro k hk hpk
            have hki : k ≠ i := fun e => by rw [e, hpi] at hpk; cases hpk
            obtain ⟨ok, hok⟩ := hget k hk
            have h2 : disj (pl i).sk.fr (pl k).sk.nw = true ∧ disj (pl i).sk.fr (pl k).sk.sy = true := by
              rcases Nat.lt_or_gt_of_ne hki with h | h
              · have := hp.sep k i ok o h hok ho
                exact ⟨this.1, this.2.1⟩
              · rcases (hp.sep i k o ok h ho hok).2.2 with hb | ⟨_, _, hb1, hb2⟩
                · rw [haft k hk hb] at hpk; cases hpk
                · exact ⟨hb1, hb2⟩
            constructor
            · cases hw : wN (pl k) m with
              | false => rfl
              | true => exact (disj_spec h2.1 hm (wN_sk hw)).elim
            · cases hv : (pl k).tw with
              | none => rfl
              | some x =>
                obtain ⟨d, v⟩ := x
                refine AV.says_names v m ?_
                cases hcn : v.names.contains m with
                | false => rfl
                | true =>
                  refine (disj_spec h2.2 hm ?_).elim
                  unfold Eff.sk
                  simp only [hv]
                  simpa using hcn
          constructor
          · have : (ovs pl (fun k => listed.getD k false) σ ops.size).n m = (ovs pl (fun _ => false) σ ops.size).n m := ovs_n ops.size (fun k hk hw => by
              cases hpk : listed.getD k false with
              | false => rfl
              | true => rw [(hno k hk hpk).1] at hw; cases hw)
            rw [this]
            have h0 : ∀ n, ovs pl (fun _ => false) σ n = σ := by
              intro n
              induction n with
              | zero => rfl
              | succ n ihn => simp only [ovs, Bool.false_eq_true, if_false, ihn]
            rw [h0]
            exact hf.1
          · intro t
            have : ∀ n, n ≤ ops.size → ((ovs pl (fun k => listed.getD k false) σ n).t t).says m = false := by
              intro n
              induction n with
              | zero => intro _; exact hf.2 t
              | succ n ihn =>
                intro hn
                simp only [ovs]
                split
                · rename_i hpn
                  have h3 := (hno n (by omega) hpn).2
                  unfold Eff.ap
                  simp only
                  cases hv : (pl n).tw with
                  | none => exact ihn (by omega)
                  | some x =>
                    obtain ⟨d, v⟩ := x
                    rw [hv] at h3
                    simp only at h3 ⊢
                    cases hb : Nat.beq d t with
                    | true => simpa using h3
                    | false => simpa using ihn (by omega)
                · exact ihn (by omega)
            exact this _ (Nat.le_refl _)
      refine opG_run ho (hp.op i o ho) hok hs (fun a' w' hs' => ?_)
      have hins := ovs_ins (pl := pl) (σ := σ) (p := fun k => listed.getD k false) (q := fun k => (listed.setIfInBounds i true).getD k false) hlt hpi hq
        (fun k t h1 h2 h3 h4 => by
          obtain ⟨ok, hok⟩ := hget k h2
          rcases (hp.sep i k o ok h1 ho hok).2.2 with hb | ⟨hb, _⟩
          · have := haft k h2 hb
            exact absurd (h3.symm.trans this) (by decide)
          · cases hw : wT (pl k) t with
            | false => rfl
            | true => exact absurd (wT_sk hw) (half_t hb (wT_sk h4)).2)
        (fun k m h1 h2 h3 h4 => by
          obtain ⟨ok, hok⟩ := hget k h2
          rcases (hp.sep i k o ok h1 ho hok).2.2 with hb | ⟨hb, _⟩
          · have := haft k h2 hb
            exact absurd (h3.symm.trans this) (by decide)
          · cases hw : wN (pl k) m with
            | false => rfl
            | true => exact absurd (wN_sk hw) (half_n hb (wN_sk h4)).1)
      refine ih _ (by simpa using hsz) ?_ ?_ a' w' (by rw [hins]; exact hs')
      · have := cnt_ins (p := fun k => listed.getD k false) (q := fun k => (listed.setIfInBounds i true).getD k false) hpi hq ops.size hlt
        omega
      · intro j oj hoj hj e he hb
        simp only [hq] at hj ⊢
        simp only [Bool.or_eq_true, beq_iff_eq] at hj ⊢
        rcases hj with hj | hj
        · exact .inl (hcl j oj hoj hj e he hb)
        · subst hj
          rw [ho] at hoj
          injection hoj with hoj
          subst hoj
          exact .inl (hdep e he hb)
end
end Go.Proofs.Ytobgdemhadlgnaa.Av

namespace Go.Proofs.Ytobgdemhadlgnaa.Av
open Go Go.RowKit
def lk : List (Nat × AV) → Nat → AV
  | [], _ => .un
  | (k, v) :: l, t => bif Nat.beq k t then v else lk l t
def ln : List (Nat × Ob) → Nat → Ob
  | [], _ => .no
  | (k, v) :: l, t => bif Nat.beq k t then v else ln l t
/-- a state written as two lists -/
def SS (L : List (Nat × AV)) (M : List (Nat × Ob)) : AS := ⟨lk L, ln M⟩
theorem ln_append (a b : List (Nat × Ob)) (m : Nat) : ln (a ++ b) m = (nwGet a m).getD (ln b m) := by
  induction a with
  | nil => rfl
  | cons x a ih =>
    obtain ⟨k, o⟩ := x
    show (bif Nat.beq k m then o else ln (a ++ b) m) = ((bif Nat.beq k m then some o else nwGet a m).getD (ln b m))
    cases Nat.beq k m with
    | true => rfl
    | false => exact ih
def Eff.L (e : Eff) (L : List (Nat × AV)) : List (Nat × AV) := match e.tw with | some x => x :: L | none => L
theorem ap_ss (e : Eff) (L : List (Nat × AV)) (M : List (Nat × Ob)) : e.ap (SS L M) = SS (e.L L) (e.nw ++ M) := by
  unfold Eff.ap SS Eff.L
  congr 1
  · funext t
    cases e.tw with
    | none => rfl
    | some x => rfl
  · funext m
    exact (ln_append _ _ _).symm
def freshB (L : List (Nat × AV)) (M : List (Nat × Ob)) (m : Nat) : Bool := !(ln M m).live && L.all fun p => !p.2.says m
theorem fresh_ss {L : List (Nat × AV)} {M : List (Nat × Ob)} {m : Nat} (h : freshB L M m = true) : fresh (SS L M) m := by
  unfold freshB at h
  simp only [Bool.and_eq_true, Bool.not_eq_true'] at h
  refine ⟨?_, fun t => ?_⟩
  · show ln M m = .no
    cases hq : ln M m with
    | no => rfl
    | _ => rw [hq] at h; simp [Ob.live] at h
  · show (lk L t).says m = false
    have h2 := h.2
    clear h
    induction L with
    | nil => rfl
    | cons x L ih =>
      obtain ⟨k, v⟩ := x
      simp only [List.all_cons, Bool.and_eq_true, Bool.not_eq_true'] at h2
      show (bif Nat.beq k t then v else lk L t).says m = false
      cases Nat.beq k t with
      | true => exact h2.1
      | false => exact ih h2.2
section
variable {P : Program} {N : Nat} {w0 : World} {U0 : Nat → Nat}
theorem fits_drew {σ : AS} {a : Act} {w : World} (h : St N w0 U0 σ a w) : St N w0 U0 σ a { w with drawn := w.drawn + 1 } := by
  obtain ⟨F, hF⟩ := h.f
  have := hF.up (w' := { w with drawn := w.drawn + 1 }) (U' := F.U) h.b.size ⟨fun _ _ => rfl, fun _ _ => rfl⟩
  exact ⟨h.d, h.s, h.b.trans ⟨rfl, rfl, rfl, Nat.le_refl _, fun _ _ => rfl⟩, F, this⟩
structure DR (P : Program) (N : Nat) (w0 : World) (U0 : Nat → Nat) (ops : Array Oper) (σ0 : AS) (k : Nat) (sk : List Sk) (σ : AS) (R : AS → Prop) : Prop where
  go : ∀ pl : Nat → Eff, (∀ i o, i < k → ops[i]? = some o → OpG P N w0 U0 ops o (ovs pl (fun _ => true) σ0 i) (pl i)) → (List.range k).map (fun i => (pl i).sk) = sk → ovs pl (fun _ => true) σ0 k = σ →
    ∀ a w, St N w0 U0 σ0 a w → ∀ Q, (∀ σ' a' w', R σ' → St N w0 U0 σ' a' w' → Q Exit.normal a' w') → wpAny P .any ops Q ops.size (Array.replicate ops.size false) a w
theorem ovs_congr {pl pl' : Nat → Eff} {p : Nat → Bool} {σ : AS} : ∀ n, (∀ k, k < n → pl k = pl' k) → ovs pl p σ n = ovs pl' p σ n := by
  intro n
  induction n with
  | zero => intro _; rfl
  | succ n ih => intro h; simp only [ovs, ih (fun k hk => h k (by omega)), h n (by omega)]
theorem dr_step {ops : Array Oper} {σ0 : AS} {k : Nat} {sk : List Sk} {o : Oper} {σ : AS} {e : Eff} {R : AS → Prop} (ho : ops[k]? = some o) (h : OpG P N w0 U0 ops o σ e) (hr : DR P N w0 U0 ops σ0 (k + 1) (sk ++ [e.sk]) (e.ap σ) R) : DR P N w0 U0 ops σ0 k sk σ R := by
  refine ⟨fun pl h1 h2 h3 => ?_⟩
  have hpl : ∀ i, i < k → pl i = (fun i => if i = k then e else pl i) i := fun i hi => by simp only; rw [if_neg (by omega)]
  refine hr.go (fun i => if i = k then e else pl i) (fun i o' hi ho' => ?_) ?_ ?_
  · by_cases hik : i = k
    · subst hik
      rw [ho] at ho'
      injection ho' with ho'
      subst ho'
      rw [← ovs_congr i hpl, h3]
      simp only [if_true]
      exact h
    · rw [← ovs_congr i (fun j hj => hpl j (by omega))]
      show OpG P N w0 U0 ops o' _ (if i = k then e else pl i)
      rw [if_neg hik]
      exact h1 i o' (by omega) ho'
  · rw [List.range_succ, List.map_append, ← h2]
    congr 1
    · apply List.map_congr_left
      intro i hi
      have hik : i < k := by simpa using hi
      show (if i = k then e else pl i).sk = (pl i).sk
      rw [if_neg (by omega)]
    · simp
  · simp only [ovs, if_true]
    rw [← ovs_congr k hpl, h3]
def frsB (sk : List Sk) (L : List (Nat × AV)) (M : List (Nat × Ob)) : Bool := sk.all fun s => s.fr.all fun m => freshB L M m
theorem dr_done {ops : Array Oper} {L0 : List (Nat × AV)} {M0 : List (Nat × Ob)} {k : Nat} {sk : List Sk} {σ : AS} {R : AS → Prop} (hk : k = ops.size) (hsep : sepB ops sk = true) (hfr : frsB sk L0 M0 = true) (h : R σ) : DR P N w0 U0 ops (SS L0 M0) k sk σ R := by
  refine ⟨fun pl h1 h2 h3 a w hs Q hQ => ?_⟩
  subst hk
  have hsk : ∀ i, i < ops.size → sk[i]? = some (pl i).sk := fun i hi => by rw [← h2]; simp [hi]
  simp only [sepB, Bool.and_eq_true] at hsep
  have hp : Plan P N w0 U0 ops (SS L0 M0) pl := by
    refine ⟨fun i o ho => h1 i o (Array.getElem?_eq_some_iff.1 ho).1 ho, fun i hi m hm => ?_, hsep.1, fun i j oi oj hij hoi hoj => ?_⟩
    · refine fresh_ss ?_
      have := List.all_eq_true.1 hfr (pl i).sk (List.mem_of_getElem? (hsk i hi))
      exact List.all_eq_true.1 this m hm
    · have hj : j < ops.size := (Array.getElem?_eq_some_iff.1 hoj).1
      have h4 := List.all_eq_true.1 (List.all_eq_true.1 hsep.2 j (by simpa using hj)) i (by simpa using hij)
      simp only [hsk i (by omega), hsk j hj, hoi, hoj, Bool.and_eq_true, Bool.or_eq_true] at h4
      obtain ⟨⟨h5, h6⟩, h7⟩ := h4
      exact ⟨h5, h6, h7.imp id (fun h => ⟨h.1.1.1, h.1.1.2, h.1.2, h.2⟩)⟩
  refine plan_any hp (fun a' w' hs' => hQ _ _ _ h (by rw [h3] at hs'; exact hs')) ops.size _ (by simp) ?_ ?_ a w ?_
  · have : (fun k => (Array.replicate ops.size false).getD k false) = fun _ => false := by
      funext k
      rw [Array.getD_eq_getD_getElem?, Array.getElem?_replicate]
      split <;> rfl
    rw [this]
    exact cnt_false _
  · intro j o ho hj
    simp only at hj
    rw [Array.getD_eq_getD_getElem?, Array.getElem?_replicate] at hj
    split at hj <;> cases hj
  · have : (fun k => (Array.replicate ops.size false).getD k false) = fun _ => false := by
      funext k
      rw [Array.getD_eq_getD_getElem?, Array.getElem?_replicate]
      split <;> rfl
    rw [this]
    have h0 : ∀ n, ovs pl (fun _ => false) (SS L0 M0) n = SS L0 M0 := by
      intro n
      induction n with
      | zero => rfl
      | succ n ihn => simp only [ovs, Bool.false_eq_true, if_false, ihn]
    rw [h0]
    exact hs
/-! ### in a round or in none, with whatever deferred calls -/
end
/-- the act with these deferred calls -/
def dfs (a : Act) (ds : List Deferred) : Act := { a with defers := ds }
/-- everything, in a round or in none -/
def FnR (r : Option Nat) : Fence := { Fence.wide with round := r }
theorem dfs_self {a : Act} (h : a.defers = []) : dfs a [] = a := by cases a; cases h; rfl
theorem put_dfs (a : Act) (ds : List Deferred) (d : Option Nat) (v : Value) : (dfs a ds).put d v = dfs (a.put d v) ds := by cases d <;> rfl
theorem wpOps_dead {P : Program} {ops : Array Oper} {Q : Exit → Act → World → Prop} (hQ : ∀ e a w, Q e a w → e = .normal ∧ a.defers = []) : ∀ (l : List Nat) (a : Act) (w : World), a.defers ≠ [] → ¬ wpOps P ops Q l a w := by
  intro l
  induction l with
  | nil => intro a w ha h; exact ha (hQ _ _ _ h).2
  | cons i rest ih =>
    intro a w ha h
    have hp : ∀ d v, (a.put d v).defers ≠ [] := fun d v => by cases d <;> exact ha
    have hlo : ¬ LetsOut Q := fun ⟨a1, w1, hq⟩ => by cases (hQ _ _ _ hq).1
    rw [wpOps_cons] at h
    unfold wpOp at h
    cases ho : ops[i]? with
    | none => rw [ho] at h; exact ih a w ha h
    | some o =>
      rw [ho] at h
      simp only at h
      by_cases hw : Region.wanted o (yielded ops a.tmps) = true
      · rw [if_pos hw] at h
        rcases h with h | h
        · unfold Oper.wp at h
          generalize (execOp a.eval o).run P w = x at h
          cases x with
          | ok n w' =>
            cases n <;> first
              | exact ih _ _ (hp _ _) h
              | exact ih _ _ (by cases hd : o.dst <;> simp [Act.put]) h
              | (obtain ⟨e, w'', fr, hR, _⟩ := h []
                 cases e with
                 | returned v => exact ih _ _ (hp _ _) hR
                 | panicked c => cases (hQ _ _ _ hR).1
                 | outgrown => exact hlo hR)
              | (obtain ⟨v, w'', hR, _⟩ := h default []
                 exact ih _ _ (hp _ _) hR)
              | exact h.elim
          | halt x w' => cases x <;> first | (cases (hQ _ _ _ h).1) | exact h.elim
        · exact hlo h.2
      · rw [if_neg hw] at h
        exact ih _ _ (hp _ _) h
/-- what an operation does, in a round or in none -/
theorem wp_in {P : Program} {o : Oper} {a : Act} {w : World} {K : Act → World → Prop} {Q Q' : Exit → Act → World → Prop} (hQ : ∀ e a w, ¬ Q e a w) (hK : ∀ a' w', K a' w' → a'.defers = []) (ha : a.defers = []) (rd : Option Nat) (ds : List Deferred)
    (h : o.wp P a w K Q) : o.wpIn (FnR rd) 0 P (dfs a ds) w (fun a' w' => ∃ b, b.defers = [] ∧ a' = dfs b ds ∧ K b w') Q' := by
  have hlo : ¬ LetsOut Q := fun ⟨a1, w1, hq⟩ => hQ _ _ _ hq
  refine ⟨fun _ _ => trivial, ?_⟩
  have he : (dfs a ds).eval = a.eval := rfl
  by_cases hdf : ∃ c, o.op = .defer c
  · exfalso
    obtain ⟨c, hc⟩ := hdf
    unfold Oper.wp execOp at h
    simp only [hc, Sem.run_bind] at h
    cases hr : (resolve a.eval c o.type).run P w with
    | ok d w1 =>
      rw [hr] at h
      have h2 := hK _ _ h
      cases hd : o.dst <;> simp [Act.put, hd] at h2
    | halt x w1 =>
      rw [hr] at h
      cases x <;> first | exact hQ _ _ _ h | exact h
  · have hnd : ∀ c, o.op ≠ .defer c := fun c hc => hdf ⟨c, hc⟩
    rw [Oper.semAt_eq _ _ _ hnd, he]
    unfold Oper.wp at h
    have hput : ∀ v w', K (a.put o.dst v) w' → ∃ b, b.defers = [] ∧ (dfs a ds).put o.dst v = dfs b ds ∧ K b w' := fun v w' hk => ⟨_, hK _ _ hk, put_dfs _ _ _ _, hk⟩
    generalize (execOp a.eval o).run P w = x at h
    cases x with
    | ok n w' =>
      cases n <;> first
        | exact hput _ _ h
        | (exfalso
           have h2 := hK _ _ h
           cases hd : o.dst <;> simp [Act.put, hd] at h2)
        | exact ⟨fun h => (by cases h), (callsIn_wide (n := 0 - 1)).2 (Calls.mono h (fun e w'' he => by
            cases e with
            | returned v => exact hput _ _ he
            | panicked c => exact (hQ _ _ _ he).elim
            | outgrown => exact (hlo he).elim))⟩
        | exact ⟨fun h => (by cases h), fun c cs _ => (by
            obtain ⟨v, w'', hR, hs⟩ := h c cs
            exact ⟨v, w'', hput _ _ hR, stepsIn_wide.2 hs⟩)⟩
        | exact h.elim
    | halt x w' => cases x <;> first | exact (hQ _ _ _ h).elim | exact h.elim
theorem wpOp_in {P : Program} {ops : Array Oper} {i : Nat} {a : Act} {w : World} {K : Act → World → Prop} {Q Q' : Exit → Act → World → Prop} (hQ : ∀ e a w, ¬ Q e a w) (hK : ∀ a' w', K a' w' → a'.defers = []) (ha : a.defers = []) (rd : Option Nat) (ds : List Deferred)
    (h : wpOp P ops Q i K a w) : wpOpIn (FnR rd) 0 P ops Q' i (fun a' w' => ∃ b, b.defers = [] ∧ a' = dfs b ds ∧ K b w') (dfs a ds) w := by
  unfold wpOp at h
  unfold wpOpIn
  cases ho : ops[i]? with
  | none => rw [ho] at h; exact ⟨a, ha, rfl, h⟩
  | some o =>
    rw [ho] at h
    simp only at h ⊢
    show if Region.wanted o (yielded ops a.tmps) = true then _ else _
    by_cases hw : Region.wanted o (yielded ops a.tmps) = true
    · rw [if_pos hw] at h ⊢
      rcases h with h | h
      · exact wp_in hQ hK ha rd ds h
      · obtain ⟨_, a1, w1, hq⟩ := h
        exact (hQ _ _ _ hq).elim
    · rw [if_neg hw] at h ⊢
      exact ⟨fun _ _ => trivial, _, hK _ _ h, put_dfs _ _ _ _, h⟩
theorem wpOps_noQ {P : Program} {ops : Array Oper} {Q : Exit → Act → World → Prop} (hQ : ∀ e a w, Q e a w → e = .normal ∧ a.defers = []) : ∀ (l : List Nat) (rd : Option Nat) (ds : List Deferred) (a : Act) (w : World), a.defers = [] → wpOps P ops Q l a w →
    wpOpsIn (FnR rd) 0 P ops (fun e a' w' => ∃ b, b.defers = [] ∧ a' = dfs b ds ∧ Q e b w') l (dfs a ds) w := by
  intro l
  induction l with
  | nil => intro rd ds a w ha h; exact ⟨a, ha, rfl, h⟩
  | cons i rest ih =>
    intro rd ds a w ha h
    rw [wpOps_cons] at h
    rw [wpOpsIn_cons]
    have hno : ∀ e a w, ¬ (Q e a w ∧ e ≠ .normal) := fun e a w hq => hq.2 (hQ _ _ _ hq.1).1
    have hlo : ¬ LetsOut Q := fun ⟨a1, w1, hq⟩ => by cases (hQ _ _ _ hq).1
    have h2 : wpOp P ops (fun e a w => Q e a w ∧ e ≠ .normal) i (fun a' w' => a'.defers = [] ∧ wpOps P ops Q rest a' w') a w := by
      have hk : ∀ a' w', wpOps P ops Q rest a' w' → a'.defers = [] ∧ wpOps P ops Q rest a' w' := fun a' w' hh => by
        by_cases hd : a'.defers = []
        · exact ⟨hd, hh⟩
        · exact (wpOps_dead hQ rest a' w' hd hh).elim
      unfold wpOp at h ⊢
      cases ho : ops[i]? with
      | none => rw [ho] at h; exact hk _ _ h
      | some o =>
        rw [ho] at h
        simp only at h ⊢
        by_cases hw : Region.wanted o (yielded ops a.tmps) = true
        · rw [if_pos hw] at h ⊢
          rcases h with h | h
          · left
            have h3 := Oper.wp_mono (P := P) (Q := Q) hk h
            unfold Oper.wp at h3 ⊢
            generalize (execOp a.eval o).run P w = x at h3
            cases x with
            | ok n w' =>
              cases n <;> first
                | exact h3
                | exact Calls.mono h3 (fun e w'' he => by
                    cases e with
                    | returned v => exact he
                    | panicked c => exact ⟨he, by simp⟩
                    | outgrown => exact (hlo he).elim)
            | halt x w' => cases x <;> first | exact ⟨h3, by simp⟩ | exact h3
          · exact (hlo h.2).elim
        · rw [if_neg hw] at h ⊢
          exact hk _ _ h
    refine wpOpIn_mono (fun a' w' hh => ?_) (wpOp_in hno (fun a' w' hh => hh.1) ha rd ds h2)
    obtain ⟨b, hb, rfl, _, hb2⟩ := hh
    exact ih rd ds b w' hb hb2
section
variable {P : Program} {N : Nat} {w0 : World} {U0 : Nat → Nat}
/-! ### bodies -/
structure A (P : Program) (N : Nat) (w0 : World) (U0 : Nat → Nat) (c : Code) (R : Exit → AS → Prop) (σ : AS) : Prop where
  goR : ∀ (rd : Option Nat) (ds : List Deferred) a w, St N w0 U0 σ a w → ∀ Q, (∀ e σ' a' w', R e σ' → St N w0 U0 σ' a' w' → Q e (dfs a' ds) w') → c.wpIn (FnR rd) 0 P Q (dfs a ds) w
theorem A.go {c : Code} {R : Exit → AS → Prop} {σ : AS} (h : A P N w0 U0 c R σ) : ∀ a w, St N w0 U0 σ a w → ∀ Q, (∀ e σ' a' w', R e σ' → St N w0 U0 σ' a' w' → Q e a' w') → c.wp P Q a w := by
  intro a w hs Q hQ
  have h2 := h.goR none [] a w hs Q (fun e σ' a' w' hr hs' => by rw [dfs_self hs'.d]; exact hQ e σ' a' w' hr hs')
  rw [dfs_self hs.d] at h2
  exact (wpIn_wide (n := 0)).1 h2
def thenR (k : AS → Prop) (R : Exit → AS → Prop) : Exit → AS → Prop
  | .normal, σ => k σ
  | e, σ => R e σ
def inBlk (id : Nat) (R : Exit → AS → Prop) : Exit → AS → Prop
  | .exit id', σ => bif Nat.beq id' id then R .normal σ else R (.exit id') σ
  | e, σ => R e σ
variable {R : Exit → AS → Prop} {σ : AS}
theorem a_skip (h : R .normal σ) : A P N w0 U0 .skip R σ := ⟨fun rd ds a w hs Q hQ => wpIn_skip (hQ _ _ _ _ h hs)⟩
theorem a_ret (h : R .ret σ) : A P N w0 U0 .ret R σ := ⟨fun rd ds a w hs Q hQ => wpIn_ret (hQ _ _ _ _ h hs)⟩
theorem a_exit {id : Nat} (h : R (.exit id) σ) : A P N w0 U0 (.exit id) R σ := ⟨fun rd ds a w hs Q hQ => wpIn_exit (hQ _ _ _ _ h hs)⟩
theorem a_seq {x y : Code} (h : A P N w0 U0 x (thenR (A P N w0 U0 y R) R) σ) : A P N w0 U0 (.seq x y) R σ := by
  refine ⟨fun rd ds a w hs Q hQ => ?_⟩
  refine wpIn_seq (h.goR rd ds a w hs _ (fun e σ' a' w' hr hs' => ?_))
  cases e with
  | normal => exact A.goR hr rd ds a' w' hs' Q hQ
  | _ => exact hQ _ _ _ _ hr hs'
theorem a_cond {c : Operand} {x y : Code} {b : Bool} (hc : σ.ev c = .d (.fl (.bool b))) (h1 : b = true → A P N w0 U0 x R σ) (h2 : b = false → A P N w0 U0 y R σ) : A P N w0 U0 (.cond c x y) R σ := by
  refine ⟨fun rd ds a w hs Q hQ => ?_⟩
  obtain ⟨F, hF⟩ := hs.f
  have hv : a.eval c = .bool b := by
    have := hF.ev c
    rw [hc] at this
    generalize a.eval c = v at this ⊢
    cases this
    rfl
  have hv' : (dfs a ds).eval c = .bool b := hv
  exact wpIn_cond_split hv' (fun hb => (h1 hb).goR rd ds a w hs Q hQ) (fun hb => (h2 hb).goR rd ds a w hs Q hQ)
theorem a_block {id : Nat} {c : Code} (h : A P N w0 U0 c (inBlk id R) σ) : A P N w0 U0 (.block id c) R σ := by
  refine ⟨fun rd ds a w hs Q hQ => ?_⟩
  refine wpIn_block (h.goR rd ds a w hs _ (fun e σ' a' w' hr hs' => ?_))
  cases e with
  | exit id' =>
    simp only [Exit.inBlock]
    have hr : (bif Nat.beq id' id then R .normal σ' else R (.exit id') σ') := hr
    by_cases hid : id' = id
    · subst hid
      rw [Nat.beq_refl] at hr
      rw [if_pos rfl]
      exact hQ _ _ _ _ hr hs'
    · rw [nbeq hid] at hr
      rw [if_neg hid]
      exact hQ _ _ _ _ hr hs'
  | _ => exact hQ _ _ _ _ hr hs'
def Imp (N : Nat) (w0 : World) (U0 : Nat → Nat) (σ τ : AS) : Prop := ∀ a w, St N w0 U0 σ a w → St N w0 U0 τ a w
theorem Imp.refl (σ : AS) : Imp N w0 U0 σ σ := fun _ _ h => h
theorem Imp.trans {σ τ υ : AS} (h : Imp N w0 U0 σ τ) (k : Imp N w0 U0 τ υ) : Imp N w0 U0 σ υ := fun a w hs => k a w (h a w hs)
theorem a_imp {c : Code} {τ : AS} (hi : Imp N w0 U0 σ τ) (h : A P N w0 U0 c R τ) : A P N w0 U0 c R σ := ⟨fun rd ds a w hs Q hQ => h.goR rd ds a w (hi a w hs) Q hQ⟩
theorem a_mono {c : Code} {R' : Exit → AS → Prop} (h : A P N w0 U0 c R' σ) (hR : ∀ e σ', R' e σ' → R e σ') : A P N w0 U0 c R σ := ⟨fun rd ds a w hs Q hQ => h.goR rd ds a w hs Q (fun e σ' a' w' hr hs' => hQ _ _ _ _ (hR _ _ hr) hs')⟩
/-- a loop: the states at its head are a family -/
theorem a_loop {c : Code} {ι : Type} (I : ι → AS) (ok : ι → Prop) (μ : ι → Nat) (i0 : ι) (hok : ok i0) (h0 : Imp N w0 U0 σ (I i0))
    (round : ∀ i, ok i → A P N w0 U0 c (thenR (fun σ' => ∃ i', ok i' ∧ μ i' < μ i ∧ Imp N w0 U0 σ' (I i')) R) (I i)) : A P N w0 U0 (.loop c) R σ := by
  refine ⟨fun rd ds a w hs Q hQ => ?_⟩
  have key : ∀ n i a w, μ i = n → ok i → St N w0 U0 (I i) a w → ∀ (b : Frame) (k : List Item) (cs : List Frame), b.roundOf = (FnR rd).round → ∃ e a' w', Q e a' w' ∧ ArrivesIn (Machine.fenced P (FnR rd)) P (lone (b.atR (dfs a ds) (.code c :: .inLoop c :: k)) cs w) b k cs e a' w' := by
    intro n
    induction n using Nat.strongRecOn with
    | _ n ih =>
      intro i a w hn hoi hsi b k cs hro
      obtain ⟨e, a₁, w₁, hq, harr⟩ := (round i hoi).goR rd ds a w hsi (fun e a' w' => ∃ σ' b', thenR (fun σ' => ∃ i', ok i' ∧ μ i' < μ i ∧ Imp N w0 U0 σ' (I i')) R e σ' ∧ a' = dfs b' ds ∧ St N w0 U0 σ' b' w') (fun e σ' a' w' hr hs' => ⟨σ', a', hr, rfl, hs'⟩) b (.inLoop c :: k) cs hro trivial (room_wide _)
      obtain ⟨σ₁, b₁, hr, rfl, hs₁⟩ := hq
      cases e with
      | normal =>
        obtain ⟨i', hoi', hlt, himp⟩ := hr
        obtain ⟨e₂, a₂, w₂, hq₂, harr₂⟩ := ih (μ i') (hn ▸ hlt) i' b₁ w₁ rfl hoi' (himp _ _ hs₁) b k cs hro
        exact ⟨e₂, a₂, w₂, hq₂, .of_steps (StepsIn.trans harr (.one (fenced_wide P _) stepR_inLoop)) harr₂⟩
      | exit id => exact ⟨_, dfs b₁ ds, w₁, hQ _ _ _ _ hr hs₁, .pass (x := .inLoop c) rfl (fun _ _ => .inl (by simp)) harr⟩
      | goto l => exact ⟨_, dfs b₁ ds, w₁, hQ _ _ _ _ hr hs₁, .pass (x := .inLoop c) rfl (fun _ _ => .inl (by simp)) harr⟩
      | ret => exact ⟨_, dfs b₁ ds, w₁, hQ _ _ _ _ hr hs₁, .pass (x := .inLoop c) rfl (fun _ _ => .inl (by simp)) harr⟩
      | panic ch => exact ⟨_, dfs b₁ ds, w₁, hQ _ _ _ _ hr hs₁, .pass (x := .inLoop c) rfl (fun _ _ => .inl (by simp)) harr⟩
      | outgrown => exact ⟨_, dfs b₁ ds, w₁, hQ _ _ _ _ hr hs₁, .pass (x := .inLoop c) rfl (fun _ _ => .inl (by simp)) harr⟩
  intro b k cs hro hb hr
  obtain ⟨e, a', w', hq, harr⟩ := key _ i0 a w rfl hok (h0 _ _ hs) b k cs hro
  exact ⟨e, a', w', hq, .of_steps (.one (fenced_wide P _) stepR_loop) harr⟩
/-- what a region's walk says, in a round or in none -/
theorem reg_in {ops : Array Oper} {K : AS → Prop} {l : List Nat} {a : Act} {w : World} (ha : a.defers = []) (rd : Option Nat) (ds : List Deferred) {Q : Exit → Act → World → Prop} (hQ : ∀ σ' a' w', K σ' → St N w0 U0 σ' a' w' → Q .normal (dfs a' ds) w')
    (h : wpOps P ops (fun e a' w' => e = .normal ∧ ∃ σ', K σ' ∧ St N w0 U0 σ' a' w') l a w) : ∀ e a' w', (∃ b, b.defers = [] ∧ a' = dfs b ds ∧ (e = Exit.normal ∧ ∃ σ', K σ' ∧ St N w0 U0 σ' b w')) → Q e a' w' := by
  rintro e a' w' ⟨b, _, rfl, rfl, σ', hk, hs'⟩
  exact hQ σ' b w' hk hs'
theorem a_region {id : Nat} {ops : Array Oper} (h : RG P N w0 U0 ops 0 σ (R .normal)) : A P N w0 U0 (.region id ops false) R σ := by
  refine ⟨fun rd ds a w hs Q hQ => ?_⟩
  have h1 := h.go a w hs (fun e a' w' => e = .normal ∧ ∃ σ', R .normal σ' ∧ St N w0 U0 σ' a' w') (fun σ' a' w' hr hs' => ⟨rfl, σ', hr, hs'⟩)
  have h2 : wpOps P ops (fun e a' w' => e = .normal ∧ ∃ σ', R .normal σ' ∧ St N w0 U0 σ' a' w') (List.range ops.size) a w := by simpa using h1
  exact wpIn_mono (wpIn_region (wpOps_noQ (fun e a w hq => ⟨hq.1, by obtain ⟨_, σ', _, hs'⟩ := hq; exact hs'.d⟩) _ rd ds a w hs.d h2)) (reg_in hs.d rd ds (fun σ' a' w' hr hs' => hQ _ _ _ _ hr hs') h2)
theorem a_draw {id : Nat} {ops : Array Oper} {L : List (Nat × AV)} {M : List (Nat × Ob)} (hm : P.follows .mixedOrders = true) (h : DR P N w0 U0 ops (SS L M) 0 [] (SS L M) (R .normal)) : A P N w0 U0 (.region id ops true) R (SS L M) := by
  refine ⟨fun rd ds a w hs Q hQ => ?_⟩
  have h1 := h.go (fun _ => ⟨none, [], [], []⟩) (fun i o hi => by omega) rfl rfl a _ (fits_drew hs) (fun e a' w' => e = .normal ∧ ∃ σ', R .normal σ' ∧ St N w0 U0 σ' a' w') (fun σ' a' w' hr hs' => ⟨rfl, σ', hr, hs'⟩)
  have h2 : ∀ t, wpOps P ops (fun e a' w' => e = .normal ∧ ∃ σ', R .normal σ' ∧ St N w0 U0 σ' a' w') (Region.schedule (P.follows .mixedOrders) ops t) a { w with drawn := w.drawn + 1 } := fun t => by
    simp only [Region.schedule, hm, Bool.true_or, if_true]
    exact wpAny_sound ops.size t _ a _ h1
  refine wpIn_mono (wpIn_region_draw (fun t => wpOps_noQ (fun e a w hq => ⟨hq.1, by obtain ⟨_, σ', _, hs'⟩ := hq; exact hs'.d⟩) _ rd ds a _ hs.d (h2 t))) (fun e a' w' hh => ?_)
  obtain ⟨b, _, rfl, rfl, σ', hk, hs'⟩ := hh
  exact hQ _ σ' b w' hk hs'
/-! ### weaker states -/
def renA (ρ : Nat → Nat) : AV → AV
  | .pt m o => .pt (ρ m) o
  | .pe m z i j => .pe (ρ m) z i j
  | .pv m x => .pv (ρ m) x
  | .pw m x => .pw (ρ m) x
  | .wn m k z => .wn (ρ m) k z
  | .ow m => .ow (ρ m)
  | .cl f cs => .cl f (cs.map (XA.ren ρ))
  | v => v
def allT (ρ : Nat → Nat) (σ : AS) : List (Nat × AV) → Prop
  | [] => True
  | (t, v) :: l => (σ.t t = renA ρ v) ∧ allT ρ σ l
def allN (ρ : Nat → Nat) (σ : AS) : List (Nat × Ob) → Prop
  | [] => True
  | (m, o) :: l => (σ.n (ρ m) = o) ∧ allN ρ σ l
theorem allT_get {ρ : Nat → Nat} {L : List (Nat × AV)} (h : allT ρ σ L) (t : Nat) : lk L t = .un ∨ σ.t t = renA ρ (lk L t) := by
  induction L with
  | nil => exact .inl rfl
  | cons x L ih =>
    obtain ⟨k, v⟩ := x
    show (bif Nat.beq k t then v else lk L t) = .un ∨ σ.t t = renA ρ (bif Nat.beq k t then v else lk L t)
    cases hb : Nat.beq k t with
    | true => have := Nat.eq_of_beq_eq_true hb
              subst this
              exact .inr h.1
    | false => exact ih h.2
theorem allN_get {ρ : Nat → Nat} {M : List (Nat × Ob)} (h : allN ρ σ M) (m : Nat) : ln M m = .no ∨ (m ∈ M.map (·.1) ∧ σ.n (ρ m) = ln M m) := by
  induction M with
  | nil => exact .inl rfl
  | cons x M ih =>
    obtain ⟨k, v⟩ := x
    show (bif Nat.beq k m then v else ln M m) = .no ∨ (m ∈ k :: M.map (·.1) ∧ σ.n (ρ m) = (bif Nat.beq k m then v else ln M m))
    cases hb : Nat.beq k m with
    | true => have := Nat.eq_of_beq_eq_true hb
              subst this
              exact .inr ⟨List.mem_cons_self, h.1⟩
    | false => exact (ih h.2).imp id (fun h => ⟨List.mem_cons_of_mem _ h.1, h.2⟩)
def injB (ρ : Nat → Nat) (l : List Nat) : Bool := l.all fun a => l.all fun b => Nat.beq a b || !(Nat.beq (ρ a) (ρ b))
theorem imp_ren {L : List (Nat × AV)} {M : List (Nat × Ob)} (ρ : Nat → Nat) (hi : injB ρ (M.map (·.1)) = true) (hT : allT ρ σ L) (hN : allN ρ σ M) : Imp N w0 U0 σ (SS L M) := by
  intro a w hs
  obtain ⟨F, hF⟩ := hs.f
  refine ⟨hs.d, hs.s, hs.b, ⟨fun m => F.β (ρ m), fun m => F.γ (ρ m), F.U, fun m => F.S (ρ m)⟩, hF.u, fun t => ?_, fun m => ?_, fun m m' b h1 h2 h3 h4 => ?_⟩
  · show Rav w _ (lk L t) _
    rcases allT_get hT t with h | h
    · rw [h]; trivial
    · have := hF.t t
      rw [h] at this
      revert this
      cases lk L t with
      | cl f cs =>
        rintro ⟨vs, e, hl, hv⟩
        refine ⟨vs, e, by simpa using hl, fun j u c h1 h2 => ?_⟩
        exact Rxa.ren (F := F) (ρ := ρ) rfl (fun m => rfl) (hv j u (c.ren ρ) h1 (by simp [h2]))
      | _ => exact id
  · show Rob _ w _ m (ln M m)
    rcases allN_get hN m with h | ⟨_, h⟩
    · rw [h]; trivial
    · have := hF.n (ρ m)
      rw [h] at this
      revert this
      cases ln M m <;> exact id
  · have g1 : m ∈ M.map (·.1) ∧ σ.n (ρ m) = ln M m := (allN_get hN m).resolve_left (fun h => by have h1' : (ln M m).live = true := h1; rw [h] at h1'; cases h1')
    have g2 : m' ∈ M.map (·.1) ∧ σ.n (ρ m') = ln M m' := (allN_get hN m').resolve_left (fun h => by have h2' : (ln M m').live = true := h2; rw [h] at h2'; cases h2')
    have := hF.i (ρ m) (ρ m') b (by rw [g1.2]; exact h1) (by rw [g2.2]; exact h2) h3 h4
    have h5 := List.all_eq_true.1 (List.all_eq_true.1 hi m g1.1) m' g2.1
    simp only [this, Nat.beq_refl, Bool.not_true, Bool.or_false] at h5
    exact Nat.eq_of_beq_eq_true h5
theorem imp_forget {L : List (Nat × AV)} {M : List (Nat × Ob)} (hi : injB id (M.map (·.1)) = true) (hT : allT id σ L) (hN : allN id σ M) : Imp N w0 U0 σ (SS L M) := imp_ren id hi hT hN
theorem Rob.same {B : Nat} {w : World} {F F' : Fr} {m : Nat} {o : Ob} (h : Rob B w F m o) (hβ : F'.β m = F.β m) (hγ : F'.γ m = F.γ m) (hS : ∀ b, F'.S m b ↔ F.S m b) (hU : F'.U = F.U := by rfl) : Rob B w F' m o := by
  cases o with
  | no => trivial
  | bx ty cs =>
    obtain ⟨b, vs, h1, h2, h3, h4, h5, h6⟩ := h
    exact ⟨b, vs, hβ.trans h1, h2, by rw [hU]; exact h3, h4, by rw [hU]; exact h5, fun b' => (hS b').trans (h6 b')⟩
  | ow e z rows =>
    obtain ⟨xs, h1, h2, h3, h4, h5⟩ := h
    exact ⟨xs, by rw [hγ]; exact h1, by rw [hU]; exact h2, h3, fun b => by rw [hγ]; exact (hS b).trans (h4 b), fun b hb => by rw [hU]; exact h5 b ((hS b).1 hb)⟩
  | tr e z rows =>
    obtain ⟨xs, T, h1, h2, h3, h4, h5⟩ := h
    exact ⟨xs, T, by rw [hγ]; exact h1, by rw [hU]; exact h2, h3, by rw [hγ, hU]; exact h4, fun b => by rw [hγ]; exact (hS b).trans (h5 b)⟩
  | bt ty cs =>
    obtain ⟨b, vs, T, h1, h2, h3, h4, h5, h6, h7⟩ := h
    exact ⟨b, vs, T, hβ.trans h1, h2, by rw [hU]; exact h3, h4, by rw [hU]; exact h5, h6, fun b' => (hS b').trans (h7 b')⟩
  | sv cs =>
    obtain ⟨vs, T, h1, h2, h3⟩ := h
    exact ⟨vs, T, hγ.trans h1, by rw [hU]; exact h2, fun b => (hS b).trans (h3 b)⟩
  | mp ents =>
    obtain ⟨b, es, c, h1, h2, h3, h4, h5, h6, hst⟩ := h
    exact ⟨b, es, c, hγ.trans h1, h2, by rw [hU]; exact h3, h4, by rw [hU]; exact h5, fun b' => (hS b').trans (h6 b'), hst⟩
  | it s p =>
    obtain ⟨b, h1, h2, h3, h4, h6⟩ := h
    exact ⟨b, hγ.trans h1, h2, by rw [hU]; exact h3, h4, fun b' => (hS b').trans (h6 b')⟩
  | mi left cur =>
    obtain ⟨b, r, es, c, since, seen, last, h1, h2, h3, h4, h6, g1, g2, g3, g4, g5, g6, g7⟩ := h
    exact ⟨b, r, es, c, since, seen, last, hγ.trans h1, h2, by rw [hU]; exact h3, h4, fun b' => (hS b').trans (h6 b'), g1, by rw [hU]; exact g2, g3, g4, g5, by rw [hU]; exact g6, by rw [hU]; exact g7⟩
  | pin H V Q =>
    obtain ⟨h1, h2⟩ := h
    exact ⟨fun b => (hS b).trans (h1 b), by rw [hU]; exact h2⟩
/-- a nil slice is a row of the call's own -/
theorem imp_nil {L : List (Nat × AV)} {M : List (Nat × Ob)} (t m : Nat) (e : TypeId) (z : Nat) (ht : lk L t = .d (.fl (.slice none 0 0))) (hf : freshB L M m = true) : Imp N w0 U0 (SS L M) (SS ((t, .ow m) :: L) ((m, .ow e z []) :: M)) := by
  intro a w hs
  obtain ⟨F, hF⟩ := hs.f
  have hfr := fresh_ss hf
  have hv : a.tmps.getD t undef = .slice none 0 0 := by
    have : Rav w F (lk L t) _ := hF.t t
    rw [ht] at this
    generalize a.tmps.getD t undef = v at this ⊢
    cases this
    rfl
  refine ⟨hs.d, hs.s, hs.b, ⟨fun k => if k = m then none else F.β k, fun k => if k = m then .slice none 0 0 else F.γ k, F.U, fun k b => k ≠ m ∧ F.S k b⟩, hF.u, fun k => ?_, fun k => ?_, fun k k' b h1 h2 h3 h4 => ?_⟩
  · show Rav w _ (bif Nat.beq t k then AV.ow m else lk L k) _
    cases hb : Nat.beq t k with
    | true =>
      have := Nat.eq_of_beq_eq_true hb
      subst this
      show _ = (if m = m then _ else _)
      rw [if_pos rfl, hv]
    | false =>
      have h1 : Rav w F (lk L k) _ := hF.t k
      have h2 : (lk L k).says m = false := hfr.2 k
      revert h1 h2
      cases lk L k with
      | pt m' o =>
        intro h1 h2
        have h2' : (m' == m) = false := h2
        obtain ⟨b, h3, h4⟩ := h1
        exact ⟨b, by show (if m' = m then none else F.β m') = some b; rw [if_neg (by simpa using h2')]; exact h3, h4⟩
      | pe m' z' i j =>
        intro h1 h2
        have h2' : (m' == m) = false := h2
        obtain ⟨b, h3, h4⟩ := h1
        exact ⟨b, by show (if m' = m then _ else F.γ m').ownBlock = some b; rw [if_neg (by simpa using h2')]; exact h3, h4⟩
      | ow m' =>
        intro h1 h2
        have h2' : (m' == m) = false := h2
        show _ = (if m' = m then _ else F.γ m')
        rw [if_neg (by simpa using h2')]
        exact h1
      | pv m' x =>
        intro h1 h2
        have h2' : (m' == m) = false := h2
        obtain ⟨h5, b, h3, h4⟩ := h1
        exact ⟨h5, b, by show (if m' = m then none else F.β m') = some b; rw [if_neg (by simpa using h2')]; exact h3, h4⟩
      | pw m' x =>
        intro h1 h2
        have h2' : (m' == m) = false := h2
        exact ⟨h1.1, by show _ = (if m' = m then _ else F.γ m'); rw [if_neg (by simpa using h2')]; exact h1.2⟩
      | wn m' i z =>
        intro h1 h2
        have h2' : (m' == m) = false := h2
        show _ = winV (if m' = m then _ else F.γ m') i z
        rw [if_neg (by simpa using h2')]
        exact h1
      | cl f cs =>
        intro h1 h2
        refine Rav.clSwap (F := F) rfl (fun k hk => ?_) h1
        show (if k = m then none else F.β k) = F.β k
        rw [if_neg (fun e => by rw [e, h2] at hk; cases hk)]
      | _ => exact fun h1 _ => h1
  · show Rob _ w _ k (bif Nat.beq m k then _ else ln M k)
    cases hb : Nat.beq m k with
    | true =>
      have := Nat.eq_of_beq_eq_true hb
      subst this
      refine ⟨[], ?_, ⟨⟨rfl, fun j u x h => by simp at h⟩, (fun u hu => by cases hu)⟩, (fun r hr => by cases hr), fun b => ?_, fun b h => ?_⟩
      · simp only [if_true]; exact World.ownsRow_nil _ _ _ _
      · simp only [if_true]
        constructor
        · intro h; exact absurd rfl h.1
        · intro h; cases h
      · exact absurd rfl h.1
    | false =>
      have hne : k ≠ m := fun e => by rw [e, Nat.beq_refl] at hb; cases hb
      have h1 : Rob _ w F k (ln M k) := hF.n k
      refine Rob.same h1 ?_ ?_ ?_
      · show (if k = m then _ else F.β k) = F.β k; rw [if_neg hne]
      · show (if k = m then _ else F.γ k) = F.γ k; rw [if_neg hne]
      · intro b; exact ⟨fun h => h.2, fun h => ⟨hne, h⟩⟩
  · by_cases e1 : k = m
    · exact absurd e1 h3.1
    · by_cases e2 : k' = m
      · exact absurd e2 h4.1
      · have g : ∀ j, j ≠ m → ((SS ((t, .ow m) :: L) ((m, .ow e z []) :: M)).n j) = ln M j := fun j hj => by
          show (bif Nat.beq m j then _ else ln M j) = ln M j
          rw [nbeq (Ne.symm hj)]; rfl
        rw [g k e1] at h1
        rw [g k' e2] at h2
        exact hF.i k k' b h1 h2 h3.2 h4.2
end
end Go.Proofs.Ytobgdemhadlgnaa.Av

namespace Go.Proofs.Ytobgdemhadlgnaa.Av
open Go Go.RowKit
section
variable {P : Program} {N : Nat} {w0 : World} {U0 : Nat → Nat}
def dOk (o : Oper) (N : Nat) : Bool := match o.dst with | some d => Nat.blt d N | none => true
theorem put_get {a : Act} {d : Nat} {v : Value} (h : d < a.tmps.size) (t : Nat) : (a.put (some d) v).tmps.getD t undef = if d = t then v else a.tmps.getD t undef := by
  show (a.tmps.setIfInBounds d v).getD t undef = _
  by_cases hd : d = t
  · subst hd; simp [h]
  · simp [Array.getElem?_setIfInBounds_ne hd, hd]
/-- a value is put, in a world that has grown -/
theorem Fits.put {σ : AS} {a : Act} {w w' : World} {F : Fr} {U' : Nat → Nat} (h : Fits w0 U0 σ a w F) (hs : w0.heap.size ≤ w.heap.size) (hu : Up w F.U w' U') {o : Oper} (hd : dOk o N = true) (hN : a.tmps.size = N) {av : AV} {v : Value} (hv : Rav w' { F with U := U' } av v) (rn fr : List Nat) :
    Fits w0 U0 ((⟨o.dst.map fun d => (d, av), [], rn, fr⟩ : Eff).ap σ) (a.put o.dst v) w' { F with U := U' } := by
  have h2 := h.up hs hu
  refine ⟨h2.u, fun t => ?_, h2.n, h2.i⟩
  cases hdd : o.dst with
  | none => exact h2.t t
  | some d =>
    rw [put_get (by unfold dOk at hd; rw [hdd] at hd; simp only at hd; have := Nat.le_of_ble_eq_true hd; omega)]
    show Rav w' _ (bif Nat.beq d t then av else σ.t t) _
    by_cases he : d = t
    · subst he; rw [Nat.beq_refl, if_pos rfl]; exact hv
    · rw [nbeq he, if_neg he]; exact h2.t t
theorem opS_val {o : Oper} {σ : AS} {av : AV} {rn : List Nat} (hd : dOk o N = true)
    (h : ∀ σ', (⟨o.dst.map fun d => (d, av), [], rn, []⟩ : Eff).ok o σ σ' → ∀ a w F, Fits w0 U0 σ' a w F → w0.heap.size ≤ w.heap.size →
      ∃ v w' U', (execOp a.eval o).run P w = .ok (.value v) w' ∧ Below w.heap.size w w' ∧ (∀ b, b < w.heap.size → U' b = F.U b) ∧ Rav w' { F with U := U' } av v) :
    OpS P N w0 U0 o σ ⟨o.dst.map fun d => (d, av), [], rn, []⟩ := by
  intro σ' hok a w hs K Q hK
  obtain ⟨F, hF⟩ := hs.f
  obtain ⟨v, w', U', hr, hb, hu, hv⟩ := h σ' hok a w F hF hs.b.size
  unfold Oper.wp
  rw [hr]
  refine hK _ _ ⟨by rw [put_defers]; exact hs.d, by rw [put_size]; exact hs.s, hs.b.trans (hb.mono hs.b.size), _, hF.put hs.b.size ⟨hb.block, hu⟩ hd hs.s hv rn []⟩
/-- the value alone, of the operands' values -/
theorem opS_still {o : Oper} {σ : AS} {av : AV} {rn : List Nat} (hd : dOk o N = true)
    (h : ∀ σ', (⟨o.dst.map fun d => (d, av), [], rn, []⟩ : Eff).ok o σ σ' → ∀ a w F, Fits w0 U0 σ' a w F → ∃ v, (execOp a.eval o).run P w = .ok (.value v) w ∧ Rav w F av v) :
    OpS P N w0 U0 o σ ⟨o.dst.map fun d => (d, av), [], rn, []⟩ :=
  opS_val hd fun σ' hok a w F hF _ => by
    obtain ⟨v, h1, h2⟩ := h σ' hok a w F hF
    exact ⟨v, w, F.U, h1, Below.refl _ _, fun _ _ => rfl, h2⟩
theorem ev_get {o : Oper} {e : Eff} {σ σ' : AS} {a : Act} {w : World} {F : Fr} (hok : e.ok o σ σ') (hF : Fits w0 U0 σ' a w F) {x : Operand} (hx : x ∈ o.op.operands) {v : AV} (h : σ.ev x = v) : Rav w F v (a.eval x) := by
  have := hF.ev x
  rw [ev_ok hok hx, h] at this
  exact this
theorem flat_val {w : World} {F : Fr} {x v : Value} (h : Rav w F (.d (.fl x)) v) : v = x := by cases h; rfl
/-! ### moves -/
theorem op_move {o : Oper} {σ : AS} {x : Operand} (ho : o.op = .move x) {v : AV} (hx : σ.ev x = v) (hd : dOk o N = true) : OpS P N w0 U0 o σ ⟨o.dst.map fun d => (d, v), [], [], []⟩ :=
  opS_still hd fun σ' hok a w F hF => ⟨a.eval x, by simp [execOp, ho], ev_get hok hF (by simp [ho, Op.operands]) hx⟩
theorem op_assign {o : Oper} {σ : AS} {x : Operand} (ho : o.op = .assign x) {v : AV} (hx : σ.ev x = v) (hd : dOk o N = true) : OpS P N w0 U0 o σ ⟨o.dst.map fun d => (d, v), [], [], []⟩ :=
  opS_still hd fun σ' hok a w F hF => ⟨a.eval x, by simp [execOp, ho], ev_get hok hF (by simp [ho, Op.operands]) hx⟩
theorem op_pick {o : Oper} {σ : AS} {c x y : Operand} (ho : o.op = .pick c x y) {b : Bool} (hc : σ.ev c = .d (.fl (.bool b))) {v : AV} (hx : (bif b then σ.ev x else σ.ev y) = v) (hd : dOk o N = true) : OpS P N w0 U0 o σ ⟨o.dst.map fun d => (d, v), [], [], []⟩ :=
  opS_still hd fun σ' hok a w F hF => by
    have h1 := flat_val (ev_get hok hF (x := c) (by simp [ho, Op.operands]) hc)
    cases b with
    | true => exact ⟨a.eval x, by simp [execOp, ho, h1, asBool], ev_get hok hF (by simp [ho, Op.operands]) hx⟩
    | false => exact ⟨a.eval y, by simp [execOp, ho, h1, asBool], ev_get hok hF (by simp [ho, Op.operands]) hx⟩
/-! ### flat operations -/
theorem op_bin {o : Oper} {σ : AS} {op : BinOp} {t t' : TypeId} {x y : Operand} (ho : o.op = .binOp op t x y t') {a b v : Value} (hx : σ.ev x = .d (.fl a)) (hy : σ.ev y = .d (.fl b))
    (hv : ∀ (x y : Operand) (w : World), (do eqGuard op t x y a b; binOp op t a b : Sem Value).run P w = .ok v w) (hd : dOk o N = true) : OpS P N w0 U0 o σ ⟨o.dst.map fun d => (d, .d (.fl v)), [], [], []⟩ :=
  opS_still hd fun σ' hok ac w F hF => by
    have h1 := flat_val (ev_get hok hF (x := x) (by simp [ho, Op.operands]) hx)
    have h2 := flat_val (ev_get hok hF (x := y) (by simp [ho, Op.operands]) hy)
    refine ⟨v, ?_, .fl v⟩
    unfold execOp
    simp only [ho, Sem.run_bind, h1, h2]
    have := hv x y w
    simp only [Sem.run_bind] at this
    rw [this]
    rfl
theorem op_un {o : Oper} {σ : AS} {op : UnOp} {t : TypeId} {x : Operand} (ho : o.op = .unOp op t x) {a v : Value} (hx : σ.ev x = .d (.fl a)) (hv : ∀ w : World, (Op.unary op a).run P w = .ok v w) (hd : dOk o N = true) : OpS P N w0 U0 o σ ⟨o.dst.map fun d => (d, .d (.fl v)), [], [], []⟩ :=
  opS_still hd fun σ' hok ac w F hF => by
    have h1 := flat_val (ev_get hok hF (x := x) (by simp [ho, Op.operands]) hx)
    refine ⟨v, ?_, .fl v⟩
    unfold execOp
    simp only [ho, Sem.run_bind, h1, hv w]
    rfl
section
variable (t : TypeId) (k : IntKind) (a b : Int) (c d : Bool) (s u : ByteArray) (x y : Operand) (w : World)
theorem b_eql : (do eqGuard .eql t x y (.int k a) (.int k b); binOp .eql t (.int k a) (.int k b) : Sem Value).run P w = .ok (.bool (a == b)) w := by simp [eqGuard, binOp, Op.intCmp]
theorem b_neq : (do eqGuard .neq t x y (.int k a) (.int k b); binOp .neq t (.int k a) (.int k b) : Sem Value).run P w = .ok (.bool (a != b)) w := by simp [eqGuard, binOp, Op.intCmp]
theorem b_lss : (do eqGuard .lss t x y (.int k a) (.int k b); binOp .lss t (.int k a) (.int k b) : Sem Value).run P w = .ok (.bool (decide (a < b))) w := by simp [eqGuard, binOp, Op.intCmp]
theorem b_leq : (do eqGuard .leq t x y (.int k a) (.int k b); binOp .leq t (.int k a) (.int k b) : Sem Value).run P w = .ok (.bool (decide (a ≤ b))) w := by simp [eqGuard, binOp, Op.intCmp]
theorem b_gtr : (do eqGuard .gtr t x y (.int k a) (.int k b); binOp .gtr t (.int k a) (.int k b) : Sem Value).run P w = .ok (.bool (decide (b < a))) w := by simp [eqGuard, binOp, Op.intCmp]
theorem b_geq : (do eqGuard .geq t x y (.int k a) (.int k b); binOp .geq t (.int k a) (.int k b) : Sem Value).run P w = .ok (.bool (decide (b ≤ a))) w := by simp [eqGuard, binOp, Op.intCmp]
theorem b_add : (do eqGuard .add t x y (.int k a) (.int k b); binOp .add t (.int k a) (.int k b) : Sem Value).run P w = .ok (.int k (k.wrap (a + b))) w := by simp [eqGuard, binOp, Op.intArith]
theorem b_sub : (do eqGuard .sub t x y (.int k a) (.int k b); binOp .sub t (.int k a) (.int k b) : Sem Value).run P w = .ok (.int k (k.wrap (a - b))) w := by simp [eqGuard, binOp, Op.intArith]
theorem b_mul : (do eqGuard .mul t x y (.int k a) (.int k b); binOp .mul t (.int k a) (.int k b) : Sem Value).run P w = .ok (.int k (k.wrap (a * b))) w := by simp [eqGuard, binOp, Op.intArith]
theorem w64 {r : Int} (h : -9223372036854775808 ≤ r ∧ r ≤ 9223372036854775807) : IntKind.i64.wrap r = r := IntWalk.i64_in _ h
theorem b_add64 (h : -9223372036854775808 ≤ a + b ∧ a + b ≤ 9223372036854775807) : (do eqGuard .add t x y (.int .i64 a) (.int .i64 b); binOp .add t (.int .i64 a) (.int .i64 b) : Sem Value).run P w = .ok (.int .i64 (a + b)) w := by rw [b_add, w64 h]
theorem b_sub64 (h : -9223372036854775808 ≤ a - b ∧ a - b ≤ 9223372036854775807) : (do eqGuard .sub t x y (.int .i64 a) (.int .i64 b); binOp .sub t (.int .i64 a) (.int .i64 b) : Sem Value).run P w = .ok (.int .i64 (a - b)) w := by rw [b_sub, w64 h]
theorem b_mul64 (h : -9223372036854775808 ≤ a * b ∧ a * b ≤ 9223372036854775807) : (do eqGuard .mul t x y (.int .i64 a) (.int .i64 b); binOp .mul t (.int .i64 a) (.int .i64 b) : Sem Value).run P w = .ok (.int .i64 (a * b)) w := by rw [b_mul, w64 h]
/-- two strings are equal -/
def sEq (s u : ByteArray) : Bool := decide (s = u)
theorem toList_sEq (s u : ByteArray) : (s.toList == u.toList) = sEq s u := by
  unfold sEq
  by_cases h : s = u
  · subst h; simp
  · rw [decide_eq_false h]
    simp only [beq_eq_false_iff_ne]
    intro hl
    rw [ByteArray.toList_eq, ByteArray.toList_eq] at hl
    exact h (by
      obtain ⟨⟨a⟩⟩ := s
      obtain ⟨⟨b⟩⟩ := u
      simp at hl
      rw [hl])
theorem b_seq : (do eqGuard .eql t x y (.string s) (.string u); binOp .eql t (.string s) (.string u) : Sem Value).run P w = .ok (.bool (sEq s u)) w := by simp [eqGuard, binOp, Op.stringOp, ← toList_sEq]
theorem b_sne : (do eqGuard .neq t x y (.string s) (.string u); binOp .neq t (.string s) (.string u) : Sem Value).run P w = .ok (.bool (!sEq s u)) w := by simp [eqGuard, binOp, Op.stringOp, ← toList_sEq]
theorem equalIn_bool (n : Nat) (h : P.underlying t = some .bool) : (Op.equalIn (n + 1) t (.bool c) (.bool d)).run P w = .ok (c == d) w := by
  unfold Op.equalIn
  rw [Sem.run_bind, run_underlying h]
  rfl
theorem b_beq (h : P.underlying t = some .bool) : (do eqGuard .eql t x y (.bool c) (.bool d); binOp .eql t (.bool c) (.bool d) : Sem Value).run P w = .ok (.bool (c == d)) w := by
  have h2 : (Op.equal t (.bool c) (.bool d)).run P w = .ok (c == d) w := equalIn_bool t c d w 9999 h
  simp [eqGuard, binOp, h2]
theorem b_bne (h : P.underlying t = some .bool) : (do eqGuard .neq t x y (.bool c) (.bool d); binOp .neq t (.bool c) (.bool d) : Sem Value).run P w = .ok (.bool (!(c == d))) w := by
  have h2 : (Op.equal t (.bool c) (.bool d)).run P w = .ok (c == d) w := equalIn_bool t c d w 9999 h
  simp [eqGuard, binOp, h2]
theorem u_not : (Op.unary .not (.bool c)).run P w = .ok (.bool (!c)) w := by simp [Op.unary]
end
/-! ### tuples -/
theorem op_extract {o : Oper} {σ : AS} {x : Operand} {i : Nat} (ho : o.op = .extract x i) {cs : List DV} (hx : σ.ev x = .tu cs) {v : DV} (hv : cs[i]? = some v) (hd : dOk o N = true) : OpS P N w0 U0 o σ ⟨o.dst.map fun d => (d, .d v), [], [], []⟩ :=
  opS_still hd fun σ' hok a w F hF => by
    obtain ⟨vs, h1, h2⟩ := ev_get hok hF (x := x) (by simp [ho, Op.operands]) hx
    have hlt : i < cs.length := (List.getElem?_eq_some_iff.1 hv).1
    have hl := h2.1
    obtain ⟨u, hu⟩ : ∃ u, vs.toList[i]? = some u := ⟨_, List.getElem?_eq_getElem (by omega)⟩
    refine ⟨u, ?_, h2.2 i u v hu hv⟩
    have hu' : vs[i]? = some u := by simpa using hu
    simp [execOp, ho, h1, Instr.extract, hu']
/-! ### addresses -/
theorem add_plain' (b o j : Nat) : (⟨b, o, none⟩ : Addr).add j = ⟨b, o + j, none⟩ := by
  unfold Addr.add
  by_cases h : j = 0 <;> simp [h]
theorem op_field_el {o : Oper} {σ : AS} {s : TypeId} {x : Operand} {f : Nat} (ho : o.op = .fieldAddr s x f) {fs : Array Field} (hu : P.underlying s = some (.struct fs)) {fd : Field} (hf : fs[f]? = some fd) {i : TypeInfo} (hi : P.info? fd.type = some i) (hz : i.size ≠ 0)
    {cs : List DV} (hx : σ.ev x = .el cs) (hd : dOk o N = true) : OpS P N w0 U0 o σ ⟨o.dst.map fun d => (d, .el (cs.drop fd.offset)), [], [], []⟩ :=
  opS_still hd fun σ' hok a w F hF => by
    obtain ⟨b, off, h1, h2⟩ := elD (ev_get hok hF (x := x) (by simp [ho, Op.operands]) hx)
    refine ⟨.pointer (some ⟨b, off + fd.offset, none⟩), ?_, elM fun j y hy => ?_⟩
    · simp [execOp, ho, h1, Instr.fieldAt, run_underlying hu, hf, Instr.sureAddr, fieldPlace, sizeOf, typeInfo, hi, hz, add_plain']
    · rw [List.getElem?_drop] at hy
      rw [Nat.add_assoc]
      exact h2 _ y hy
/-- a slot that points to a box -/
def AV.ptOf : AV → Option (Nat × Nat)
  | .pt m p => some (m, p)
  | .pv m _ => some (m, 0)
  | _ => none
theorem pt_get {σ σ' : AS} {o : Oper} {e : Eff} {a : Act} {w : World} {F : Fr} (hok : e.ok o σ σ') (hF : Fits w0 U0 σ' a w F) {x : Operand} (hx : x ∈ o.op.operands) {m p : Nat} (h : (σ.ev x).ptOf = some (m, p)) : ∃ b, F.β m = some b ∧ a.eval x = .pointer (some ⟨b, p, none⟩) := by
  have h1 := hF.ev x
  rw [ev_ok hok hx] at h1
  revert h h1
  cases σ.ev x with
  | pt m' p' =>
    intro h h1
    simp only [AV.ptOf, Option.some.injEq, Prod.mk.injEq] at h
    obtain ⟨rfl, rfl⟩ := h
    exact h1
  | pv m' u =>
    intro h h1
    simp only [AV.ptOf, Option.some.injEq, Prod.mk.injEq] at h
    obtain ⟨rfl, rfl⟩ := h
    obtain ⟨e, b, h2, h3⟩ := h1
    exact ⟨b, h2, e.trans h3⟩
  | _ => intro h _; simp [AV.ptOf] at h
theorem box_get {σ : AS} {a : Act} {w : World} {F : Fr} (hF : Fits w0 U0 σ a w F) {m : Nat} {ty : TypeId} {cs : List DV} (h : σ.n m = .bx ty cs) {b : Nat} (hb : F.β m = some b) : w0.heap.size ≤ b ∧ F.U b = 0 ∧ ∃ vs, w.heap[b]? = some (.cells vs ty (0, 0)) ∧ Rc w F.U vs.toList cs := by
  have := hF.n m
  rw [h] at this
  obtain ⟨b', vs, h1, h2, h3, h4, h5, _⟩ := this
  rw [hb] at h1
  injection h1 with h1
  subst h1
  exact ⟨h2, h3, vs, h4, h5⟩
theorem op_field_pt {o : Oper} {σ : AS} {s : TypeId} {x : Operand} {f : Nat} (ho : o.op = .fieldAddr s x f) {fs : Array Field} (hu : P.underlying s = some (.struct fs)) {fd : Field} (hf : fs[f]? = some fd) {i : TypeInfo} (hi : P.info? fd.type = some i) (hz : i.size ≠ 0)
    {m p : Nat} (hx : (σ.ev x).ptOf = some (m, p)) (hd : dOk o N = true) : OpS P N w0 U0 o σ ⟨o.dst.map fun d => (d, .pt m (p + fd.offset)), [], [], []⟩ :=
  opS_still hd fun σ' hok a w F hF => by
    obtain ⟨b, h1, h2⟩ := pt_get hok hF (x := x) (by simp [ho, Op.operands]) hx
    refine ⟨.pointer (some ⟨b, p + fd.offset, none⟩), ?_, b, h1, rfl⟩
    simp [execOp, ho, h2, Instr.fieldAt, run_underlying hu, hf, Instr.sureAddr, fieldPlace, sizeOf, typeInfo, hi, hz, add_plain']
theorem cellAt_some {rows : List (List DV)} {i j : Nat} {r : List DV} {x : DV} (hr : rows[i]? = some r) (hx : r[j]? = some x) : cellAt rows i j = some x := by
  unfold cellAt; rw [hr]; exact hx
/-- an element's address -/
theorem elem_at {w : World} {F : Fr} {z n c : Nat} {A : Option Addr} {rows : List (List DV)} (h : Rd w F.U (.slice A n c) (.sl z rows)) {i : Nat} {r : List DV} (hr : rows[i]? = some r) :
    ∃ b off, A = some ⟨b, off, none⟩ ∧ i < n ∧ Rav w F (.el r) (.pointer (some ⟨b, off + i * z, none⟩)) := by
  cases h with
  | sn => simp at hr
  | sl b off _ _ _ _ u hn hz hm hcell hrr =>
    refine ⟨b, off, rfl, by have := (List.getElem?_eq_some_iff.1 hr).1; omega, elM fun j x hx => ?_⟩
    obtain ⟨h1, h2, h3⟩ := hcell i j x (cellAt_some hr hx)
    exact ⟨_, h1, h2, h3, hrr i j x (cellAt_some hr hx)⟩
theorem op_index {o : Oper} {σ : AS} {t : TypeId} {x y : Operand} (ho : o.op = .indexAddr t x y) {e : TypeId} (hu : P.underlying t = some (.slice e)) {i : TypeInfo} (hi : P.info? e = some i) {rows : List (List DV)} (hx : σ.ev x = .d (.sl i.size rows))
    {k : IntKind} {n : Int} (hy : σ.ev y = .d (.fl (.int k n))) {r : List DV} (h0 : 0 ≤ n) (hr : rows[n.toNat]? = some r) (hd : dOk o N = true) : OpS P N w0 U0 o σ ⟨o.dst.map fun d => (d, .el r), [], [], []⟩ :=
  opS_still hd fun σ' hok a w F hF => by
    have h1 : Rd w F.U (a.eval x) _ := ev_get hok hF (x := x) (by simp [ho, Op.operands]) hx
    have h2 := flat_val (ev_get hok hF (x := y) (by simp [ho, Op.operands]) hy)
    obtain ⟨A, ln, c, hv⟩ : ∃ A ln c, a.eval x = .slice A ln c := by
      generalize a.eval x = v at h1
      cases h1 with
      | sn A c z => exact ⟨A, 0, c, rfl⟩
      | sl b off n c z rows u => exact ⟨_, n, c, rfl⟩
    rw [hv] at h1
    obtain ⟨b, off, rfl, hlt, h3⟩ := elem_at h1 hr
    refine ⟨_, ?_, h3⟩
    have hlt' : n < (ln : Int) := by omega
    simp [execOp, ho, hv, h2, Instr.indexAt, run_underlying hu, asIntOf, sizeOf, typeInfo, hi, h0, hlt', add_plain']
/-! ### loads -/
def aggD (d : TypeDesc) : Bool := match d with | .struct _ | .array _ _ => true | _ => false
theorem run_isAgg' {t : TypeId} {d : TypeDesc} (h : P.underlying t = some d) (w : World) : (isAgg t).run P w = .ok (aggD d) w := by
  unfold isAgg
  rw [Sem.run_bind, run_underlying h w]
  cases d <;> rfl
theorem run_load_one {t : TypeId} {d : TypeDesc} (h : P.underlying t = some d) (hd : aggD d = false) {w : World} {b o : Nat} {u : Value} (hc : w.cell? ⟨b, o, none⟩ = some u) : (loadVar t ⟨b, o, none⟩).run P w = .ok u w := by
  unfold loadVar
  rw [Sem.run_bind, run_isAgg' h w, hd]
  simp [load, Sem.run, hc]
theorem run_load_many {t : TypeId} {d : TypeDesc} (h : P.underlying t = some d) (hd : aggD d = true) {i : TypeInfo} (hi : P.info? t = some i) {w : World} {b o : Nat} {us : List Value} (hl : us.length = i.size) (hc : ∀ j u, us[j]? = some u → w.cell? ⟨b, o + j, none⟩ = some u) :
    (loadVar t ⟨b, o, none⟩).run P w = .ok (.agg us.toArray) w := by
  have := run_loadCells_list (P := P) w ⟨b, o, none⟩ us (fun j v hv => by rw [add_plain']; exact hc j v hv)
  rw [hl] at this
  unfold loadVar
  rw [Sem.run_bind, run_isAgg' h w, hd]
  simp [sizeOf, typeInfo, hi, this]
theorem op_load_el {o : Oper} {σ : AS} {t : TypeId} {x : Operand} (ho : o.op = .load t x) {d : TypeDesc} (hu : P.underlying t = some d) (ha : aggD d = false) {cs : List DV} (hx : σ.ev x = .el cs) {v : DV} (hv : cs[0]? = some v) (hd : dOk o N = true) : OpS P N w0 U0 o σ ⟨o.dst.map fun d => (d, .d v), [], [], []⟩ :=
  opS_still hd fun σ' hok a w F hF => by
    obtain ⟨b, off, h1, h2⟩ := elD (ev_get hok hF (x := x) (by simp [ho, Op.operands]) hx)
    obtain ⟨u, h3, _, _, h4⟩ := h2 0 v hv
    rw [Nat.add_zero] at h3
    refine ⟨u, ?_, h4⟩
    simp [execOp, ho, h1, Instr.loadAt, Instr.sureAddr, run_load_one hu ha h3]
theorem choose_list {α : Type} {p : Nat → α → Prop} : ∀ n, (∀ i, i < n → ∃ x, p i x) → ∃ l : List α, l.length = n ∧ ∀ i x, l[i]? = some x → p i x := by
  intro n
  induction n with
  | zero => intro _; exact ⟨[], rfl, fun i x h => by simp at h⟩
  | succ n ih =>
    intro h
    obtain ⟨l, h1, h2⟩ := ih (fun i hi => h i (by omega))
    obtain ⟨x, hx⟩ := h n (by omega)
    refine ⟨l ++ [x], by simp [h1], fun i y hy => ?_⟩
    rcases Nat.lt_or_ge i l.length with hlt | hge
    · rw [List.getElem?_append_left hlt] at hy; exact h2 i y hy
    · rw [List.getElem?_append_right hge] at hy
      by_cases hi : i - l.length = 0
      · rw [hi] at hy
        simp at hy
        subst hy
        have : i = n := by omega
        subst this
        exact hx
      · rw [List.getElem?_eq_none (by simp; omega)] at hy; cases hy
theorem op_load_els {o : Oper} {σ : AS} {t : TypeId} {x : Operand} (ho : o.op = .load t x) {d : TypeDesc} (hu : P.underlying t = some d) (ha : aggD d = true) {i : TypeInfo} (hi : P.info? t = some i) {cs : List DV} (hx : σ.ev x = .el cs) (hl : i.size ≤ cs.length) (hd : dOk o N = true) : OpS P N w0 U0 o σ ⟨o.dst.map fun d => (d, .d (.ag (cs.take i.size))), [], [], []⟩ :=
  opS_still hd fun σ' hok a w F hF => by
    obtain ⟨b, off, h1, h2⟩ := elD (ev_get hok hF (x := x) (by simp [ho, Op.operands]) hx)
    obtain ⟨us, h3, h4⟩ := choose_list (p := fun j u => w.cell? ⟨b, off + j, none⟩ = some u ∧ u.oneCell' = true ∧ ∀ y, cs[j]? = some y → Rd w F.U u y) i.size (fun j hj => by
      obtain ⟨u, g1, _, g2, g3⟩ := h2 j _ (List.getElem?_eq_getElem (by omega))
      exact ⟨u, g1, g2, fun y hy => by rw [List.getElem?_eq_getElem (by omega)] at hy; injection hy with hy; subst hy; exact g3⟩)
    refine ⟨.agg us.toArray, ?_, .ag _ _ (by simp; omega) (fun u hu => ?_) (fun j u y hu hy => ?_)⟩
    · simp [execOp, ho, h1, Instr.loadAt, Instr.sureAddr, run_load_many hu ha hi h3 (fun j u hu => (h4 j u hu).1)]
    · obtain ⟨j, hj⟩ := List.mem_iff_getElem?.1 hu
      exact (h4 j u (by simpa using hj)).2.1
    · rw [List.getElem?_take] at hy
      split at hy
      · exact (h4 j u (by simpa using hu)).2.2 y hy
      · cases hy
theorem op_load_pt {o : Oper} {σ : AS} {t : TypeId} {x : Operand} (ho : o.op = .load t x) {d : TypeDesc} (hu : P.underlying t = some d) (ha : aggD d = false) {m p : Nat} (hx : (σ.ev x).ptOf = some (m, p)) {ty : TypeId} {cs : List DV} (hm : σ.n m = .bx ty cs) {v : DV} (hv : cs[p]? = some v) (hd : dOk o N = true) : OpS P N w0 U0 o σ ⟨o.dst.map fun d => (d, .d v), [], [m], []⟩ :=
  opS_still hd fun σ' hok a w F hF => by
    obtain ⟨b, h1, h2⟩ := pt_get hok hF (x := x) (by simp [ho, Op.operands]) hx
    have hm' : σ'.n m = .bx ty cs := by rw [hok.n m (by simp)]; exact hm
    obtain ⟨_, _, vs, h3, h4⟩ := box_get hF hm' h1
    have hlt : p < cs.length := (List.getElem?_eq_some_iff.1 hv).1
    have hl := h4.1.1
    obtain ⟨u, hu'⟩ : ∃ u, vs.toList[p]? = some u := ⟨_, List.getElem?_eq_getElem (by omega)⟩
    have hc : w.cell? ⟨b, p, none⟩ = some u := by rw [cell_of_row w b p vs ty (0, 0) h3]; simpa using hu'
    refine ⟨u, ?_, h4.1.2 p u v hu' hv⟩
    simp [execOp, ho, h2, Instr.loadAt, Instr.sureAddr, run_load_one hu ha hc]
theorem op_load_pts {o : Oper} {σ : AS} {t : TypeId} {x : Operand} (ho : o.op = .load t x) {d : TypeDesc} (hu : P.underlying t = some d) (ha : aggD d = true) {i : TypeInfo} (hi : P.info? t = some i) {m p : Nat} (hx : (σ.ev x).ptOf = some (m, p)) {ty : TypeId} {cs : List DV} (hm : σ.n m = .bx ty cs) (hl : p + i.size ≤ cs.length) (hd : dOk o N = true) : OpS P N w0 U0 o σ ⟨o.dst.map fun d => (d, .d (.ag ((cs.drop p).take i.size))), [], [m], []⟩ :=
  opS_still hd fun σ' hok a w F hF => by
    obtain ⟨b, h1, h2⟩ := pt_get hok hF (x := x) (by simp [ho, Op.operands]) hx
    have hm' : σ'.n m = .bx ty cs := by rw [hok.n m (by simp)]; exact hm
    obtain ⟨_, _, vs, h3, h4⟩ := box_get hF hm' h1
    have hll := h4.1.1
    have hus : ((vs.toList.drop p).take i.size).length = i.size := by simp at hll ⊢; omega
    refine ⟨.agg ((vs.toList.drop p).take i.size).toArray, ?_, .ag _ _ (by rw [List.size_toArray, hus]; simp; omega) (fun u hu => h4.2 u (List.mem_of_mem_drop (List.mem_of_mem_take hu))) (fun j u y hu hy => ?_)⟩
    · have := run_load_many (P := P) hu ha hi (w := w) (b := b) (o := p) hus (fun j u hu => by
        rw [cell_of_row w b _ vs ty (0, 0) h3]
        rw [List.getElem?_take] at hu
        split at hu
        · rw [List.getElem?_drop] at hu; simpa using hu
        · cases hu)
      simp [execOp, ho, h2, Instr.loadAt, Instr.sureAddr, this]
    · simp only [List.getElem?_take, List.getElem?_drop] at hu hy
      split at hu
      · rename_i hj
        rw [if_pos hj] at hy
        exact h4.1.2 _ u y hu hy
      · cases hu
/-! ### lengths -/
theorem op_len_str {o : Oper} {σ : AS} {t : TypeId} {x : Operand} (ho : o.op = .call { callee := .builtin .len, args := #[x], argTypes := #[t] }) (hu : P.underlying t = some .string) {s : ByteArray} (hx : σ.ev x = .d (.fl (.string s))) (hd : dOk o N = true) : OpS P N w0 U0 o σ ⟨o.dst.map fun d => (d, .d (.fl (.int .i64 s.size))), [], [], []⟩ :=
  opS_still hd fun σ' hok a w F hF => by
    have h1 := flat_val (ev_get hok hF (x := x) (by simp [ho, Op.operands, Call.operands]) hx)
    exact ⟨_, by simp [execOp, ho, resolve, invoke, builtin, Builtin.len_, h1, run_underlying hu, goInt], .fl _⟩
theorem op_len {o : Oper} {σ : AS} {t e : TypeId} {x : Operand} (ho : o.op = .call { callee := .builtin .len, args := #[x], argTypes := #[t] }) (hu : P.underlying t = some (.slice e)) {z : Nat} {rows : List (List DV)} (hx : σ.ev x = .d (.sl z rows)) (hd : dOk o N = true) : OpS P N w0 U0 o σ ⟨o.dst.map fun d => (d, .d (.fl (.int .i64 rows.length))), [], [], []⟩ :=
  opS_still hd fun σ' hok a w F hF => by
    have h1 : Rd w F.U (a.eval x) _ := ev_get hok hF (x := x) (by simp [ho, Op.operands, Call.operands]) hx
    obtain ⟨A, c, hv⟩ : ∃ A c, a.eval x = .slice A rows.length c := by
      generalize a.eval x = v at h1
      cases h1 with
      | sn A c z => exact ⟨A, c, rfl⟩
      | sl b off n c z rows u hn => exact ⟨_, c, by rw [hn]⟩
    exact ⟨_, by simp [execOp, ho, resolve, invoke, builtin, Builtin.len_, hv, run_underlying hu, goInt], .fl _⟩
theorem op_len_nil {o : Oper} {σ : AS} {t e : TypeId} {x : Operand} (ho : o.op = .call { callee := .builtin .len, args := #[x], argTypes := #[t] }) (hu : P.underlying t = some (.slice e)) {n c : Nat} {A : Option Addr} (hx : σ.ev x = .d (.fl (.slice A n c))) (hd : dOk o N = true) : OpS P N w0 U0 o σ ⟨o.dst.map fun d => (d, .d (.fl (.int .i64 n))), [], [], []⟩ :=
  opS_still hd fun σ' hok a w F hF => by
    have h1 := flat_val (ev_get hok hF (x := x) (by simp [ho, Op.operands, Call.operands]) hx)
    exact ⟨_, by simp [execOp, ho, resolve, invoke, builtin, Builtin.len_, h1, run_underlying hu, goInt], .fl _⟩
end
end Go.Proofs.Ytobgdemhadlgnaa.Av

namespace Go.Proofs.Ytobgdemhadlgnaa.Av
open Go Go.RowKit
section
variable {P : Program} {N : Nat} {w0 : World} {U0 : Nat → Nat}
def newF (F : Fr) (m : Nat) (bo : Option Nat) (γv : Value) (U' : Nat → Nat) : Fr := ⟨fun k => if k = m then bo else F.β k, fun k => if k = m then γv else F.γ k, U', fun k b => if k = m then bo = some b else F.S k b⟩
theorem Rav.newF {w : World} {F : Fr} {m : Nat} {bo : Option Nat} {γv : Value} {U' : Nat → Nat} {v : AV} {x : Value} (h : Rav w { F with U := U' } v x) (hs : v.says m = false) : Rav w (newF F m bo γv U') v x := by
  cases v with
  | pt m' o =>
    have hs' : (m' == m) = false := hs
    obtain ⟨b, h3, h4⟩ := h
    exact ⟨b, by show (if m' = m then bo else F.β m') = some b; rw [if_neg (by simpa using hs')]; exact h3, h4⟩
  | pe m' z i j =>
    have hs' : (m' == m) = false := hs
    obtain ⟨b, h3, h4⟩ := h
    exact ⟨b, by show (if m' = m then γv else F.γ m').ownBlock = some b; rw [if_neg (by simpa using hs')]; exact h3, h4⟩
  | ow m' =>
    have hs' : (m' == m) = false := hs
    show _ = (if m' = m then γv else F.γ m')
    rw [if_neg (by simpa using hs')]
    exact h
  | pv m' x =>
    have hs' : (m' == m) = false := hs
    obtain ⟨h5, b, h3, h4⟩ := h
    exact ⟨h5, b, by show (if m' = m then bo else F.β m') = some b; rw [if_neg (by simpa using hs')]; exact h3, h4⟩
  | pw m' x =>
    have hs' : (m' == m) = false := hs
    exact ⟨h.1, by show _ = (if m' = m then γv else F.γ m'); rw [if_neg (by simpa using hs')]; exact h.2⟩
  | wn m' i z =>
    have hs' : (m' == m) = false := hs
    show _ = winV (if m' = m then γv else F.γ m') i z
    rw [if_neg (by simpa using hs')]
    exact h
  | cl f cs =>
    refine Rav.clSwap (F := { F with U := U' }) rfl (fun k hk => ?_) h
    show (if k = m then bo else F.β k) = F.β k
    rw [if_neg (fun e => by rw [e, hs] at hk; cases hk)]
  | _ => exact h
theorem Rob.newF {B : Nat} {w : World} {F : Fr} {m k : Nat} {bo : Option Nat} {γv : Value} {U' : Nat → Nat} {o : Ob} (h : Rob B w { F with U := U' } k o) (hne : k ≠ m) : Rob B w (newF F m bo γv U') k o :=
  Rob.same h (if_neg hne) (if_neg hne) (fun b => by show (if k = m then bo = some b else F.S k b) ↔ F.S k b; rw [if_neg hne])
/-- a new name, and one that goes -/
theorem Fits.name {σ : AS} {a : Act} {w w' : World} {F : Fr} (h : Fits w0 U0 σ a w F) {kill : Option Nat} {m : Nat} {ob : Ob} {bo : Option Nat} {γv : Value} {U' : Nat → Nat} (hf : fresh σ m) (hE : Ext w F.U w' U') (hu : ∀ b, b < w0.heap.size → U' b = F.U b)
    (hk : ∀ k b, (σ.n k).live = true → some k ≠ kill → F.S k b → b < w.heap.size → w'.heap[b]? = w.heap[b]? ∧ U' b = F.U b) (hne : ∀ k b, (σ.n k).live = true → some k ≠ kill → F.S k b → bo ≠ some b)
    (hob : Rob w0.heap.size w' (newF F m bo γv U') m ob) {o : Oper} (hd : dOk o N = true) (hN : a.tmps.size = N) {av : AV} {v : Value} (hv : Rav w' (newF F m bo γv U') av v) (rn : List Nat) :
    Fits w0 U0 ((⟨o.dst.map fun d => (d, av), (m, ob) :: kill.toList.map (fun k => (k, Ob.no)), rn, [m]⟩ : Eff).ap σ) (a.put o.dst v) w' (newF F m bo γv U') := by
  have hold : ∀ t, Rav w' (newF F m bo γv U') (σ.t t) (a.tmps.getD t undef) := fun t => ((h.t t).ext hE).newF (hf.2 t)
  have hn : ∀ k, ((⟨o.dst.map fun d => (d, av), (m, ob) :: kill.toList.map (fun k => (k, Ob.no)), rn, [m]⟩ : Eff).ap σ).n k = if k = m then ob else if some k = kill then .no else σ.n k := by
    intro k
    show (((bif Nat.beq m k then some ob else nwGet (kill.toList.map (fun k => (k, Ob.no))) k)).getD (σ.n k)) = _
    by_cases hkm : k = m
    · subst hkm; rw [Nat.beq_refl, if_pos rfl]; rfl
    · rw [nbeq (Ne.symm hkm), if_neg hkm]
      cases kill with
      | none => rfl
      | some q =>
        show ((bif Nat.beq q k then some Ob.no else none).getD (σ.n k)) = _
        by_cases hkq : q = k
        · subst hkq; rw [Nat.beq_refl, if_pos rfl]; rfl
        · rw [nbeq hkq, if_neg (by simpa using Ne.symm hkq)]; rfl
  refine ⟨fun b hb => (hu b hb).trans (h.u b hb), fun t => ?_, fun k => ?_, fun k k' b h1 h2 h3 h4 => ?_⟩
  · cases hdd : o.dst with
    | none => exact hold t
    | some d =>
      rw [put_get (by unfold dOk at hd; rw [hdd] at hd; simp only at hd; have := Nat.le_of_ble_eq_true hd; omega)]
      show Rav w' _ (bif Nat.beq d t then av else σ.t t) _
      by_cases he : d = t
      · subst he; rw [Nat.beq_refl, if_pos rfl]; exact hv
      · rw [nbeq he, if_neg he]; exact hold t
  · rw [hn]
    by_cases hkm : k = m
    · rw [if_pos hkm, hkm]; exact hob
    · rw [if_neg hkm]
      by_cases hkk : some k = kill
      · rw [if_pos hkk]; trivial
      · rw [if_neg hkk]
        refine Rob.newF ?_ hkm
        cases hl : (σ.n k).live with
        | false =>
          cases hq : σ.n k with
          | no => trivial
          | _ => rw [hq] at hl; cases hl
        | true => exact (h.n k).ext hE (fun b hb hlt => hk k b hl hkk hb hlt)
  · rw [hn] at h1 h2
    have h3' : (if k = m then bo = some b else F.S k b) := h3
    have h4' : (if k' = m then bo = some b else F.S k' b) := h4
    by_cases e1 : k = m
    · by_cases e2 : k' = m
      · rw [e1, e2]
      · exfalso
        rw [if_neg e2] at h2 h4'
        rw [if_pos e1] at h3'
        by_cases hkk : some k' = kill
        · rw [if_pos hkk] at h2; cases h2
        · rw [if_neg hkk] at h2
          exact hne k' b h2 hkk h4' h3'
    · rw [if_neg e1] at h1 h3'
      by_cases hkk : some k = kill
      · rw [if_pos hkk] at h1; cases h1
      · rw [if_neg hkk] at h1
        by_cases e2 : k' = m
        · exfalso
          rw [if_pos e2] at h4'
          exact hne k b h1 hkk h3' h4'
        · rw [if_neg e2] at h2 h4'
          by_cases hkk' : some k' = kill
          · rw [if_pos hkk'] at h2; cases h2
          · rw [if_neg hkk'] at h2
            exact h.i k k' b h1 h2 h3' h4'
/-- what a live name owns lies in the heap -/
theorem live_lt {σ : AS} {a : Act} {w : World} {F : Fr} (h : Fits w0 U0 σ a w F) {k b : Nat} (hl : (σ.n k).live = true) (hb : F.S k b) : b < w.heap.size := ((h.n k).lt hl hb).2
/-- a new box -/
theorem op_new {o : Oper} {σ : AS} {m : Nat} {ty : TypeId} {cs : List DV} (hd : dOk o N = true)
    (h : ∀ σ', (⟨o.dst.map fun d => (d, .pt m 0), [(m, .bx ty cs)], [], [m]⟩ : Eff).ok o σ σ' → ∀ a w F, Fits w0 U0 σ' a w F → ∃ vs : Array Value, (execOp a.eval o).run P w = .ok (.value (.pointer (some ⟨w.heap.size, 0, none⟩))) (w.alloc (.cells vs ty)) ∧ Rc w F.U vs.toList cs) :
    OpS P N w0 U0 o σ ⟨o.dst.map fun d => (d, .pt m 0), [(m, .bx ty cs)], [], [m]⟩ := by
  intro σ' hok a w hs K Q hK
  obtain ⟨F, hF⟩ := hs.f
  obtain ⟨vs, hr, hc⟩ := h σ' hok a w F hF
  obtain ⟨U', hU'⟩ : ∃ U' : Nat → Nat, U' = fun b => if b = w.heap.size then 0 else F.U b := ⟨_, rfl⟩
  have hU1 : U' w.heap.size = 0 := by rw [hU']; simp
  have hU2 : ∀ b, b < w.heap.size → U' b = F.U b := fun b hb => by rw [hU']; simp; intro h; omega
  have hE : Ext w F.U (w.alloc (.cells vs ty)) U' := Up.ext ⟨fun b hlt => Below.heap_alloc w _ b hlt, hU2⟩
  have hβ : (newF F m (some w.heap.size) undef U').β m = some w.heap.size := if_pos rfl
  have hob : Rob w0.heap.size (w.alloc (.cells vs ty)) (newF F m (some w.heap.size) undef U') m (.bx ty cs) := ⟨w.heap.size, vs, hβ, hs.b.size, hU1, Go.heap_alloc_new w _, hc.ext hE, fun b' => by show (if m = m then some w.heap.size = some b' else _) ↔ _; rw [if_pos rfl]; exact ⟨fun h => by injection h with h; exact h.symm, fun h => by rw [h]⟩⟩
  have hav : Rav (w.alloc (.cells vs ty)) (newF F m (some w.heap.size) undef U') (.pt m 0) (.pointer (some ⟨w.heap.size, 0, none⟩)) := ⟨w.heap.size, hβ, rfl⟩
  have hfit := hF.name (kill := none) (bo := some w.heap.size) (γv := undef) (U' := U') (hok.f m (by simp)) hE (fun b hb => by have := hs.b.size; exact hU2 b (by omega)) (fun k b hl _ hb hlt => ⟨Below.heap_alloc w _ b hlt, hU2 b hlt⟩)
      (fun k b hl _ hb e => by have := live_lt hF hl hb; injection e with e; omega) hob hd hs.s hav []
  unfold Oper.wp
  rw [hr]
  exact hK _ _ ⟨by rw [put_defers]; exact hs.d, by rw [put_size]; exact hs.s, hs.b.alloc hs.b.size _, _, hfit⟩
def dvCells : DV → List DV
  | .ag cs => cs
  | x => [x]
def DV.one : DV → Bool
  | .fl x => x.oneCell'
  | _ => true
theorem cells_of {w : World} {U : Nat → Nat} {v : Value} {x : DV} (h : Rd w U v x) (h1 : x.one = true) : Rc w U v.cells.toList (dvCells x) := by
  cases h with
  | fl =>
    have hc : v.cells = #[v] := by cases v <;> first | rfl | (cases h1)
    rw [hc]
    exact ⟨Rds.cons (.fl v) Rds.nil, fun u hu => by simp at hu; subst hu; exact h1⟩
  | ag vs cs h ho hc => exact ⟨⟨h, hc⟩, ho⟩
  | el b off cs u hcell hr => exact ⟨Rds.cons (.el b off cs u hcell hr) Rds.nil, fun u hu => by simp [Value.cells] at hu; subst hu; rfl⟩
  | fn f vs cs h hc => exact ⟨Rds.cons (.fn f vs cs h hc) Rds.nil, fun u hu => by simp [Value.cells] at hu; subst hu; rfl⟩
  | mp r es c ents hb hu hl hk hv hst => exact ⟨Rds.cons (.mp r es c ents hb hu hl hk hv hst) Rds.nil, fun u hu => by simp [Value.cells] at hu; subst hu; rfl⟩
  | sn A c z => exact ⟨Rds.cons (.sn A c z) Rds.nil, fun u hu => by simp [Value.cells] at hu; subst hu; rfl⟩
  | sl b off n c z rows u hn hz hm hcell hr => exact ⟨Rds.cons (.sl b off n c z rows u hn hz hm hcell hr) Rds.nil, fun u hu => by simp [Value.cells] at hu; subst hu; rfl⟩
theorem op_box {o : Oper} {σ : AS} {ty : TypeId} {x : Operand} (m : Nat) (ho : o.op = .box ty x) {v : DV} (hx : σ.ev x = .d v) (h1 : v.one = true) (hd : dOk o N = true) : OpS P N w0 U0 o σ ⟨o.dst.map fun d => (d, .pt m 0), [(m, .bx ty (dvCells v))], [], [m]⟩ :=
  op_new hd fun σ' hok a w F hF => by
    have h2 : Rd w F.U (a.eval x) v := ev_get hok hF (x := x) (by simp [ho, Op.operands]) hx
    refine ⟨(a.eval x).cells, ?_, cells_of h2 h1⟩
    simp [execOp, ho, Instr.box, newVar, newRow, newObj, Sem.run]
def zeroDV (v : Value) : List DV := v.cells.toList.map .fl
theorem op_alloc {o : Oper} {σ : AS} {ty : TypeId} (m : Nat) (ho : o.op = .alloc ty) {i : TypeInfo} (hi : P.info? ty = some i) {z : Value} (hz : i.zero = some z) (h1 : (z.cells.all fun u => u.oneCell') = true) (hd : dOk o N = true) : OpS P N w0 U0 o σ ⟨o.dst.map fun d => (d, .pt m 0), [(m, .bx ty (zeroDV z))], [], [m]⟩ :=
  op_new hd fun σ' hok a w F hF => by
    refine ⟨z.cells, ?_, ⟨by simp [zeroDV], fun j u x hu hx => ?_⟩, fun u hu => ?_⟩
    · simp [execOp, ho, Instr.alloc, zeroValue, typeInfo, hi, hz, newVar, newRow, newObj, Sem.run]
    · unfold zeroDV at hx
      rw [List.getElem?_map, hu] at hx
      simp at hx
      subst hx
      exact .fl u
    · exact Array.all_eq_true_iff_forall_mem.1 h1 u (by simpa using hu)
theorem box_S {σ : AS} {a : Act} {w : World} {F : Fr} (hF : Fits w0 U0 σ a w F) {m : Nat} {ty : TypeId} {cs : List DV} (h : σ.n m = .bx ty cs) {b : Nat} (hb : F.β m = some b) : F.S m b := by
  have := hF.n m
  rw [h] at this
  obtain ⟨b2, _, k1, _, _, _, _, k2⟩ := this
  rw [hb] at k1
  injection k1 with k1
  exact (k2 b).2 k1
/-! ### stores -/
theorem Rc.splice {w : World} {U : Nat → Nat} {vs us : List Value} {cs ds : List DV} (h : Rc w U vs cs) (k : Rc w U us ds) (p : Nat) : Rc w U (vs.take p ++ us ++ vs.drop (p + us.length)) (cs.take p ++ ds ++ cs.drop (p + ds.length)) := by
  have ht : ∀ n, Rc w U (vs.take n) (cs.take n) := fun n => ⟨⟨by simp [h.1.1], fun j u x h1 h2 => by
    rw [List.getElem?_take] at h1 h2
    split at h1
    · rename_i hj; rw [if_pos hj] at h2; exact h.1.2 j u x h1 h2
    · cases h1⟩, fun u hu => h.2 u (List.mem_of_mem_take hu)⟩
  have hdr : ∀ n, Rc w U (vs.drop n) (cs.drop n) := fun n => ⟨⟨by simp [h.1.1], fun j u x h1 h2 => by
    rw [List.getElem?_drop] at h1 h2
    exact h.1.2 _ u x h1 h2⟩, fun u hu => h.2 u (List.mem_of_mem_drop hu)⟩
  rw [k.1.1]
  exact ((ht p).append k).append (hdr _)
theorem op_store {o : Oper} {σ : AS} {t : TypeId} {x y : Operand} (ho : o.op = .store t x y) (hdn : o.dst = none) {i : TypeInfo} (hi : P.info? t = some i) {m p : Nat} (hx : (σ.ev x).ptOf = some (m, p)) {ty : TypeId} {cs : List DV} (hm : σ.n m = .bx ty cs) {v : DV} (hy : σ.ev y = .d v) (h1 : v.one = true)
    (hsz : (dvCells v).length = i.size) (hl : p + i.size ≤ cs.length) : OpS P N w0 U0 o σ ⟨none, [(m, .bx ty (cs.take p ++ dvCells v ++ cs.drop (p + (dvCells v).length)))], [m], []⟩ := by
  intro σ' hok a w hs K Q hK
  obtain ⟨F, hF⟩ := hs.f
  obtain ⟨b, hb, hpx⟩ := pt_get hok hF (x := x) (by simp [ho, Op.operands]) hx
  have hvy : Rd w F.U (a.eval y) v := ev_get hok hF (x := y) (by simp [ho, Op.operands]) hy
  have hm' : σ'.n m = .bx ty cs := by rw [hok.n m (by simp)]; exact hm
  obtain ⟨hB, hU, vs, hh, hc⟩ := box_get hF hm' hb
  have hcv := cells_of hvy h1
  have hlen : (a.eval y).cells.toList.length = i.size := by rw [hcv.1.1, hsz]
  have hst := run_storeCells_at (P := P) b p ty (a.eval y).cells.toList 0 vs w hh (by have := hc.1.1; simp at this hlen ⊢; omega) hcv.2
  have hrun : (storeVar t ⟨b, p, none⟩ (a.eval y)).run P w = .ok () (w.setRow b (vs.toList.take (p + 0) ++ (a.eval y).cells.toList ++ vs.toList.drop (p + 0 + (a.eval y).cells.toList.length)).toArray) := by
    unfold storeVar
    rw [Sem.run_bind]
    have hso : (sizeOf t).run P w = .ok i.size w := by simp [sizeOf, typeInfo, hi]
    rw [hso]
    have hne : ¬ ((a.eval y).cells.size ≠ i.size) := by simp at hlen; simp [hlen]
    simp only [Result.andThen_ok]
    rw [if_neg hne]
    simpa using hst
  have hE : Ext w F.U (w.setRow b (vs.toList.take (p + 0) ++ (a.eval y).cells.toList ++ vs.toList.drop (p + 0 + (a.eval y).cells.toList.length)).toArray) F.U := ⟨fun b' o' u hcu ho' => by
    by_cases hbb : b' = b
    · subst hbb; omega
    · exact ⟨(cell_setRow_other w b _ ⟨b', o', none⟩ hbb).trans hcu, ho'⟩, fun r es c hr hu => ⟨setRow_other w b r _ (fun e => by subst e; omega), rfl⟩⟩
  unfold Oper.wp
  have hex : (execOp a.eval o).run P w = .ok .skip (w.setRow b (vs.toList.take (p + 0) ++ (a.eval y).cells.toList ++ vs.toList.drop (p + 0 + (a.eval y).cells.toList.length)).toArray) := by
    simp only [execOp, ho, Instr.storeAt, Instr.sureAddr, hpx, Sem.run_bind, Sem.run_pure, Result.andThen_ok, hrun]
  rw [hex, Oper.upon_skip, hdn]
  have hlive : (σ'.n m).live = true := by rw [hm']; rfl
  have hbl : b < w.heap.size := (Array.getElem?_eq_some_iff.1 hh).1
  refine hK _ _ ⟨hs.d, hs.s, hs.b.trans ⟨rfl, rfl, rfl, by simp, fun k hk => setRow_other w b k _ (by omega)⟩, F, hF.u, fun t => (hF.t t).ext hE, fun k => ?_, fun k k' b' g1 g2 g3 g4 => ?_⟩
  · show Rob _ _ F k ((bif Nat.beq m k then some _ else none).getD (σ'.n k))
    by_cases hkm : m = k
    · subst hkm
      rw [Nat.beq_refl]
      refine ⟨b, _, hb, hB, hU, setRow_heap w b vs _ ty (0, 0) hh, ?_, fun b' => ?_⟩
      · have := (hc.splice hcv p).ext hE
        simpa using this
      · have := hF.n m
        rw [hm'] at this
        obtain ⟨b2, _, k1, _, _, _, _, k2⟩ := this
        rw [hb] at k1
        injection k1 with k1
        rw [k1]; exact k2 b'
    · rw [nbeq hkm]
      show Rob _ _ F k (σ'.n k)
      cases hl : (σ'.n k).live with
      | false =>
        cases hq : σ'.n k with
        | no => trivial
        | _ => rw [hq] at hl; cases hl
      | true =>
        refine (hF.n k).ext (U' := F.U) hE (fun b' hb' hlt => ⟨setRow_other w b b' _ (fun e => ?_), rfl⟩)
        subst e
        exact hkm (hF.i m k b' hlive hl (box_S hF hm' hb) hb')
  · have hn : ∀ j, (((⟨none, [(m, .bx ty (cs.take p ++ dvCells v ++ cs.drop (p + (dvCells v).length)))], [m], []⟩ : Eff).ap σ').n j).live = true → (σ'.n j).live = true := by
      intro j hj
      have hj' : (((bif Nat.beq m j then some (.bx ty (cs.take p ++ dvCells v ++ cs.drop (p + (dvCells v).length))) else none : Option Ob)).getD (σ'.n j)).live = true := hj
      by_cases hkm : m = j
      · subst hkm; exact hlive
      · rw [nbeq hkm] at hj'; exact hj'
    exact hF.i k k' b' (hn k g1) (hn k' g2) g3 g4
/-! ### what an operand reads as, a row of the call's own too -/
def Cv (x y : DV) : Prop := ∀ (w : World) (U : Nat → Nat) (v : Value), Rd w U v x → Rd w U v y
def CvL : List DV → List DV → Prop
  | [], [] => True
  | x :: xs, y :: ys => Cv x y ∧ CvL xs ys
  | _, _ => False
theorem Cv.refl (x : DV) : Cv x x := fun _ _ _ h => h
theorem Cv.nil (z : Nat) : Cv (.fl (.slice none 0 0)) (.sl z []) := fun w U v h => by cases h; exact .sn none 0 z
theorem Cv.ag {xs ys : List DV} (h : CvL xs ys) : Cv (.ag xs) (.ag ys) := fun w U v hv => by
  have hl : ∀ xs ys, CvL xs ys → xs.length = ys.length ∧ ∀ (j : Nat) y, ys[j]? = some y → ∃ x, xs[j]? = some x ∧ Cv x y := by
    intro xs
    induction xs with
    | nil =>
      intro ys h
      cases ys with
      | nil => exact ⟨rfl, fun j y h => by simp at h⟩
      | cons => exact h.elim
    | cons x xs ih =>
      intro ys h
      cases ys with
      | nil => exact h.elim
      | cons y ys =>
        obtain ⟨h1, h2⟩ := ih ys h.2
        refine ⟨by simp [h1], fun j y' hj => ?_⟩
        cases j with
        | zero => simp at hj; subst hj; exact ⟨x, rfl, h.1⟩
        | succ j => simpa using h2 j y' (by simpa using hj)
  obtain ⟨h1, h2⟩ := hl xs ys h
  cases hv with
  | ag vs _ hs ho hc =>
    refine .ag vs ys (by omega) ho (fun j u y hu hy => ?_)
    obtain ⟨x, hx, hcv⟩ := h2 j y hy
    exact hcv w U u (hc j u x hu hx)
inductive AvD (σ : AS) : AV → DV → List Nat → Prop
  | d (x : DV) : AvD σ (.d x) x []
  | cv {x y : DV} (h : Cv x y) : AvD σ (.d x) y []
  | ow {m : Nat} {e : TypeId} {z : Nat} {rows : List (List DV)} (h : σ.n m = .ow e z rows) : AvD σ (.ow m) (.sl z rows) [m]
theorem flatten_get {z : Nat} : ∀ {rows : List (List DV)}, (∀ r ∈ rows, r.length = z) → ∀ {i j : Nat} {r : List DV} {x : DV}, rows[i]? = some r → r[j]? = some x → rows.flatten[i * z + j]? = some x ∧ i * z + j < rows.length * z := by
  intro rows
  induction rows with
  | nil => intro _ i j r x h; simp at h
  | cons r0 rows ih =>
    intro hz i j r x hr hx
    have h0 := hz r0 (by simp)
    have hj : j < r.length := (List.getElem?_eq_some_iff.1 hx).1
    have hrz := hz r (List.mem_of_getElem? hr)
    cases i with
    | zero =>
      simp at hr
      subst hr
      have : rows.length * z + z = (rows.length + 1) * z := by rw [Nat.succ_mul]
      refine ⟨by simp only [List.flatten_cons]; rw [Nat.zero_mul, Nat.zero_add, List.getElem?_append_left hj]; exact hx, by simp only [List.length_cons]; rw [← this]; omega⟩
    | succ i =>
      obtain ⟨h1, h2⟩ := ih (fun r hr => hz r (by simp [hr])) (i := i) (by simpa using hr) hx
      have e1 : (i + 1) * z = i * z + z := Nat.succ_mul i z
      have e2 : (rows.length + 1) * z = rows.length * z + z := Nat.succ_mul _ z
      refine ⟨?_, by simp only [List.length_cons]; omega⟩
      simp only [List.flatten_cons]
      rw [List.getElem?_append_right (by omega)]
      rw [show (i + 1) * z + j - r0.length = i * z + j by omega]
      exact h1
theorem own_reads {B : Nat} {w : World} {F : Fr} {m : Nat} {e : TypeId} {z : Nat} {rows : List (List DV)} (h : Rob B w F m (.ow e z rows)) : Rd w F.U (F.γ m) (.sl z rows) := by
  obtain ⟨xs, h1, h2, h3, h4, h5⟩ := h
  rcases h1.2 with ⟨hv, hn⟩ | ⟨g, cap, cur, hv, hg, hh, hnc, hcm, hcs, htake⟩
  · have hr : rows = [] := List.eq_nil_of_length_eq_zero hn
    subst hr
    rw [hv]
    exact .sn none 0 z
  · have hU := h5 g (by rw [h4, hv]; rfl)
    rw [hv]
    refine .sl g 0 rows.length cap z rows (fun i j => xs.getD (i * z + j) undef) rfl h3 ⟨by unfold maxLen at hcm; omega, by omega⟩ (fun i j x hx => ?_) (fun i j x hx => ?_)
    · unfold cellAt at hx
      obtain ⟨r, hr, hj⟩ := Option.bind_eq_some_iff.1 hx
      obtain ⟨g1, g2⟩ := flatten_get h3 hr hj
      have hlt : i * z + j < xs.length := by rw [h2.1.1]; exact (List.getElem?_eq_some_iff.1 g1).1
      have hu : xs[i * z + j]? = some (xs.getD (i * z + j) undef) := by simp [List.getD, List.getElem?_eq_getElem hlt]
      refine ⟨?_, by rw [hU, Nat.zero_add]; exact g2, h2.2 _ (List.mem_of_getElem? hu)⟩
      have := h1.cells (g := g) (by rw [hv]; rfl) _ _ hu
      rw [add_plain'] at this
      rw [Nat.zero_add] at this ⊢
      exact this
    · unfold cellAt at hx
      obtain ⟨r, hr, hj⟩ := Option.bind_eq_some_iff.1 hx
      obtain ⟨g1, g2⟩ := flatten_get h3 hr hj
      have hlt : i * z + j < xs.length := by rw [h2.1.1]; exact (List.getElem?_eq_some_iff.1 g1).1
      have hu : xs[i * z + j]? = some (xs.getD (i * z + j) undef) := by simp [List.getD, List.getElem?_eq_getElem hlt]
      exact h2.1.2 _ _ _ hu g1
theorem AvD.get {σ σ' : AS} {a : Act} {w : World} {F : Fr} (hF : Fits w0 U0 σ' a w F) {v : AV} {x : DV} {rn : List Nat} (h : AvD σ v x rn) (hrn : ∀ m ∈ rn, σ'.n m = σ.n m) {u : Value} (hu : Rav w F v u) : Rd w F.U u x := by
  cases h with
  | d x => exact hu
  | cv h => exact h w F.U u hu
  | ow h =>
    rename_i m e z rows
    have := hF.n m
    rw [hrn m (by simp), h] at this
    have hu' : u = F.γ m := hu
    rw [hu']
    exact own_reads this
end
end Go.Proofs.Ytobgdemhadlgnaa.Av

namespace Go.Proofs.Ytobgdemhadlgnaa.Av
open Go Go.RowKit
section
variable {P : Program} {N : Nat} {w0 : World} {U0 : Nat → Nat}
/-- append of something: where the new row lies, and what stays -/
theorem run_app (w : World) (base : Nat) (t ty e : TypeId) (i : TypeInfo) (z : Value) (size bytes : Nat) (ht : P.underlying t = some (.slice e)) (hi : P.info? e = some i) (hz : i.zero = some z)
    (hsize : i.size = size) (hby : i.bytes = bytes) (hzs : z.cells.size = size) (hsz : 0 < size)
    (v : Value) (n : Nat) (xs : List Value) (hown : w.ownsRow base e size v n xs)
    (a : Addr) (m c : Nat) (news : List Value) (hl : news.length = m * size) (hnews : ∀ j u, news[j]? = some u → w.cell? (a.add j) = some u) (h1 : ∀ u ∈ news, u.oneCell' = true)
    (hm : 0 < m) (h63 : n + m ≤ maxLen) (hbytes : (n + m) * bytes ≤ 140737488355328) (hbase : base ≤ w.heap.size) :
    ∃ g cap w', (Builtin.append_ #[t, t] ty #[v, .slice (some a) m c]).run P w = .ok (.slice (some ⟨g, 0, none⟩) (n + m) cap) w' ∧ w'.ownsRow base e size (.slice (some ⟨g, 0, none⟩) (n + m) cap) (n + m) (xs ++ news) ∧ Below base w w' ∧
      ((g = w.heap.size ∧ ∀ b, b < w.heap.size → w'.heap[b]? = w.heap[b]?) ∨ (v.ownBlock = some g ∧ (∀ b, b ≠ g → w'.heap[b]? = w.heap[b]?) ∧ ∀ j, j < n * size → w'.cell? ⟨g, j, none⟩ = w.cell? ⟨g, j, none⟩)) := by
  subst hsize
  subst hby
  have hlen : (xs ++ news).length = (n + m) * i.size := by rw [List.length_append, hown.1, hl, Nat.add_mul]
  have grown : ∀ (old : Nat), old < n + m →
      (w.drew.alloc (.cells (xs.toArray ++ news.toArray ++ Builtin.zeroCells z.cells (grownCap w (n + m) old e - (n + m))) e)).ownsRow base e i.size
        (.slice (some ⟨w.heap.size, 0, none⟩) (n + m) (grownCap w (n + m) old e)) (n + m) (xs ++ news) ∧
      Below base w (w.drew.alloc (.cells (xs.toArray ++ news.toArray ++ Builtin.zeroCells z.cells (grownCap w (n + m) old e - (n + m))) e)) ∧
      ∀ b, b < w.heap.size → (w.drew.alloc (.cells (xs.toArray ++ news.toArray ++ Builtin.zeroCells z.cells (grownCap w (n + m) old e - (n + m))) e)).heap[b]? = w.heap[b]? := by
    intro old ho
    have hge := grownCap_ge w (n + m) old e
    have hcm : grownCap w (n + m) old e ≤ maxLen := grownCap_le_maxLen w (n + m) old e h63
    refine ⟨⟨hlen, .inr ⟨w.heap.size, _, _, rfl, hbase, Go.heap_alloc_new w.drew _, hge, hcm, ?_, ?_⟩⟩, ((Below.refl base w).drew).alloc hbase _, fun k hk => Below.heap_alloc w.drew _ k hk⟩
    · simp only [Array.size_append, List.size_toArray, size_zeroCells, hzs, hown.1, hl, ← Nat.add_mul]
      congr 1
      omega
    · simp only [Array.toList_append, List.append_assoc]
      rw [← List.append_assoc, ← hlen]
      exact List.take_left
  rcases hown.2 with ⟨rfl, rfl⟩ | ⟨g, cap, cur, rfl, hbg, hg, hnc, hcm, hcs, htake⟩
  · have hx : xs = [] := List.eq_nil_of_length_eq_zero (by simpa using hown.1)
    subst hx
    have hr := run_append_nil (P := P) w t ty e i z ht hi hz a m c news hl hnews (by omega) (by unfold maxLen at h63; omega) (by have hb := hbytes; simp only [Nat.zero_add] at hb; omega)
    have hgr := grown 0 (by omega)
    simp only [Nat.zero_add, List.nil_append, Array.empty_append] at hgr ⊢
    exact ⟨_, _, _, hr, hgr.1, hgr.2.1, .inl ⟨rfl, hgr.2.2⟩⟩
  · by_cases hroom : n + m ≤ cap
    · have hfit : n * i.size + news.length ≤ cur.size := by rw [hl, hcs, ← Nat.add_mul]; exact Nat.mul_le_mul_right _ hroom
      have hr := run_append_room (P := P) w t ty e i ht hi g n cap cur hg a m c news hl hnews h1 hroom hfit
      refine ⟨g, cap, _, hr, ⟨hlen, .inr ⟨g, cap, _, rfl, hbg, setRow_heap w g cur _ e _ hg, hroom, hcm, ?_, ?_⟩⟩, ⟨rfl, rfl, rfl, by simp, fun k hk => setRow_other w g k _ (by omega)⟩, .inr ⟨rfl, fun b hb => setRow_other w g b _ hb, fun j hj => ?_⟩⟩
      · simp only [List.size_toArray, List.length_append, List.length_take, List.length_drop, Array.length_toList]
        omega
      · rw [htake, ← hlen]
        exact List.take_left
      · rw [cell_setRow_same w g j cur _ e _ hg, cell_of_row w g j cur e (0, 0) hg]
        simp only [List.getElem?_toArray]
        rw [List.append_assoc, List.getElem?_append_left (by simp; omega), List.getElem?_take_of_lt hj]
        simp
    · have holds : ∀ j u, xs[j]? = some u → w.cell? ((⟨g, 0, none⟩ : Addr).add j) = some u := hown.cells (g := g) rfl
      have hr := run_append_grow (P := P) w t ty e i z ht hi hz ⟨g, 0, none⟩ n cap xs hown.1 holds a m c news hl hnews (by omega) (by unfold maxLen at h63; omega) (growslice_fits (by omega) hbytes)
      have hgr := grown cap (by omega)
      exact ⟨_, _, _, hr, hgr.1, hgr.2.1, .inl ⟨rfl, hgr.2.2⟩⟩
/-- append of nothing -/
theorem run_app0 (w : World) (base : Nat) (t ty e : TypeId) (i : TypeInfo) (size : Nat) (ht : P.underlying t = some (.slice e)) (hi : P.info? e = some i) (hsize : i.size = size)
    (v : Value) (n : Nat) (xs : List Value) (hown : w.ownsRow base e size v n xs) (A : Option Addr) (c : Nat) :
    (Builtin.append_ #[t, t] ty #[v, .slice A 0 c]).run P w = .ok v w := by
  have hf : ∀ w : World, (Builtin.firstCells i.size 0 (.slice A 0 c)).run P w = .ok #[] w := by
    intro w
    cases A with
    | none => rfl
    | some a => simp [Builtin.firstCells, loadCells, loadCellsFrom]
  rcases hown.2 with ⟨rfl, rfl⟩ | ⟨g, cap, cur, rfl, hbg, hg, hnc, hcm, hcs, htake⟩
  · simp [Builtin.append_, run_underlying ht, sizeOf, typeInfo, hi, Builtin.lenOf, hf]
  · simp [Builtin.append_, run_underlying ht, sizeOf, typeInfo, hi, Builtin.lenOf, hf, hnc, storeCells]
/-- the cells of a slice that reads as rows -/
theorem rows_cells {w : World} {U : Nat → Nat} {b off n c z : Nat} {rows : List (List DV)} (h : Rd w U (.slice (some ⟨b, off, none⟩) n c) (.sl z rows)) (hr : rows ≠ []) (hz : 0 < z) :
    ∃ news : List Value, news.length = n * z ∧ rows.length = n ∧ (∀ r ∈ rows, r.length = z) ∧ (∀ j u, news[j]? = some u → w.cell? ((⟨b, off, none⟩ : Addr).add j) = some u) ∧ Rc w U news rows.flatten := by
  cases h with
  | sn => exact absurd rfl hr
  | sl _ _ _ _ _ _ u hn hzz hm hcell hrr =>
    obtain ⟨news, h1, h2⟩ := choose_list (p := fun k v => w.cell? ⟨b, off + k, none⟩ = some v ∧ v.oneCell' = true ∧ ∀ x, rows.flatten[k]? = some x → Rd w U v x) (n * z) (fun k hk => by
      have hi : k / z < rows.length := by rw [hn]; exact Nat.div_lt_of_lt_mul (by rwa [Nat.mul_comm])
      have hj : k % z < z := Nat.mod_lt _ hz
      have hk' : k / z * z + k % z = k := by rw [Nat.mul_comm]; exact Nat.div_add_mod k z
      obtain ⟨r, hr'⟩ : ∃ r, rows[k / z]? = some r := ⟨_, List.getElem?_eq_getElem hi⟩
      have hrz := hzz r (List.mem_of_getElem? hr')
      obtain ⟨x, hx⟩ : ∃ x, r[k % z]? = some x := ⟨_, List.getElem?_eq_getElem (by omega)⟩
      have hca := cellAt_some hr' hx
      obtain ⟨g1, _, g3⟩ := hcell _ _ x hca
      rw [Nat.add_assoc, hk'] at g1
      refine ⟨_, g1, g3, fun x' hx' => ?_⟩
      have := (flatten_get hzz hr' hx).1
      rw [hk', hx'] at this
      injection this with this
      subst this
      exact hrr _ _ _ hca)
    have hfl : rows.flatten.length = n * z := by
      rw [← hn]
      clear hcell hrr h2 hn hm h1 hr
      induction rows with
      | nil => simp
      | cons r rows ih =>
        simp only [List.flatten_cons, List.length_append, List.length_cons, Nat.succ_mul]
        rw [ih (fun r hr => hzz r (by simp [hr])), hzz r (by simp)]
        omega
    refine ⟨news, h1, hn, hzz, fun j v hv => by rw [add_plain']; exact (h2 j v hv).1, ⟨⟨by rw [h1, hfl], fun j v x hv hx => (h2 j v hv).2.2 x hx⟩, fun v hv => ?_⟩⟩
    obtain ⟨j, hj⟩ := List.mem_iff_getElem?.1 hv
    exact (h2 j v hj).2.1
/-- the state behind an append -/
theorem append_fit {σ : AS} {a : Act} {w : World} {F : Fr} (hF : Fits w0 U0 σ a w F) (hs : St N w0 U0 σ a w) {o : Oper} (hd : dOk o N = true) {t e : TypeId} {s x : Operand} (ho : o.op = .call { callee := .builtin .append, args := #[s, x], argTypes := #[t, t] })
    {i : TypeInfo} {zv : Value} (ht : P.underlying t = some (.slice e)) (hi : P.info? e = some i) (hzv : i.zero = some zv) (hzs : zv.cells.size = i.size) (hz0 : 0 < i.size) {m : Nat} {kill : Option Nat} (hf : fresh σ m) {rows rows' : List (List DV)} {xs : List Value}
    (hown : w.ownsRow w0.heap.size e i.size (a.eval s) rows.length xs) (hrc : Rc w F.U xs rows.flatten) (hrz : ∀ r ∈ rows, r.length = i.size) (hU : ∀ b, (a.eval s).ownBlock = some b → F.U b = rows.length * i.size ∧ ∃ q, kill = some q ∧ (σ.n q).live = true ∧ F.S q b)
    (hsrc : Rd w F.U (a.eval x) (.sl i.size rows')) (h63 : rows.length + rows'.length ≤ 9223372036854775807) (hbytes : (rows.length + rows'.length) * i.bytes ≤ 140737488355328) (rn : List Nat)
    {K : Act → World → Prop} {Q : Exit → Act → World → Prop} (hK : ∀ a' w', St N w0 U0 ((⟨o.dst.map fun d => (d, .ow m), (m, .ow e i.size (rows ++ rows')) :: kill.toList.map (fun k => (k, Ob.no)), rn, [m]⟩ : Eff).ap σ) a' w' → K a' w') : o.wp P a w K Q := by
  have hbl : ∀ b, (a.eval s).ownBlock = some b → w0.heap.size ≤ b ∧ b < w.heap.size := fun b hb => hown.lt b hb
  have hrun : ∀ v' w', (Builtin.append_ #[t, t] o.type #[a.eval s, a.eval x]).run P w = .ok v' w' → (execOp a.eval o).run P w = .ok (.value v') w' := by
    intro v' w' hr
    unfold execOp
    simp only [ho, resolve, invoke, builtin, Sem.run_bind, Sem.run_pure, Result.andThen_ok, List.map_toArray, List.map_cons, List.map_nil, hr]
  unfold Oper.wp
  obtain ⟨A, n', c, hv⟩ : ∃ A n' c, a.eval x = .slice A n' c := by
    generalize a.eval x = v at hsrc
    cases hsrc with
    | sn A c z => exact ⟨A, 0, c, rfl⟩
    | sl b off n c z rows u => exact ⟨_, n, c, rfl⟩
  rw [hv] at hsrc hrun
  by_cases hr0 : rows' = []
  · subst hr0
    have hn0 : n' = 0 := by cases hsrc with
      | sn => rfl
      | sl _ _ _ _ _ _ u hn => simpa using hn.symm
    subst hn0
    rw [hrun _ _ (run_app0 (P := P) w w0.heap.size t o.type e i i.size ht hi rfl _ _ _ hown A c)]
    rw [List.append_nil] at hK
    have hfit := hF.name (kill := kill) (bo := (a.eval s).ownBlock) (γv := a.eval s) (U' := F.U) (w' := w) (ob := .ow e i.size rows) (av := .ow m) (v := a.eval s) (m := m) hf Ext.rfl (fun _ _ => rfl) (fun _ _ _ _ _ _ => ⟨rfl, rfl⟩)
      (fun k b hl hkk hb hbo => by
        obtain ⟨_, q, hq, hql, hqb⟩ := hU b hbo
        exact hkk (by rw [hq]; exact congrArg some (hF.i k q b hl hql hb hqb)))
      ⟨xs, by show w.ownsRow _ _ _ (if m = m then _ else _) _ _; rw [if_pos rfl]; exact hown, hrc, hrz, fun b => by show (if m = m then _ else _) ↔ (if m = m then _ else _ : Value).ownBlock = some b; rw [if_pos rfl, if_pos rfl], fun b hb => (hU b (by have hb' : (if m = m then (a.eval s).ownBlock = some b else _) := hb; rwa [if_pos rfl] at hb')).1⟩
      hd hs.s (by show _ = (if m = m then _ else _); rw [if_pos rfl]) rn
    exact hK _ _ ⟨by rw [put_defers]; exact hs.d, by rw [put_size]; exact hs.s, hs.b, _, hfit⟩
  · cases hsrc with
    | sn => exact absurd rfl hr0
    | sl b off _ _ _ _ u hn hzz hm hcell hrr =>
      have hsrc' : Rd w F.U (.slice (some ⟨b, off, none⟩) n' c) (.sl i.size rows') := .sl b off n' c i.size rows' u hn hzz hm hcell hrr
      obtain ⟨news, g1, g2, g3, g4, g5⟩ := rows_cells hsrc' hr0 hz0
      have hm0 : 0 < n' := by rw [← hn]; exact List.length_pos_iff.2 hr0
      obtain ⟨g, cap, w', hr, hown', hB, hcase⟩ := run_app (P := P) w w0.heap.size t o.type e i zv i.size i.bytes ht hi hzv rfl rfl hzs hz0 (a.eval s) rows.length xs hown ⟨b, off, none⟩ n' c news g1 g4 g5.2 hm0 (by unfold maxLen; omega) (by rw [← hn]; exact hbytes) hs.b.size
      rw [hrun _ _ hr]
      obtain ⟨U', hU'⟩ : ∃ U' : Nat → Nat, U' = fun b => if b = g then (rows.length + n') * i.size else F.U b := ⟨_, rfl⟩
      have hU1 : U' g = (rows.length + n') * i.size := by rw [hU']; simp
      have hU2 : ∀ b, b ≠ g → U' b = F.U b := fun b hb => by rw [hU']; simp [hb]
      have hE : Ext w F.U w' U' := by
        refine ⟨?_, fun r es c hmp hu => ?_⟩
        case refine_2 =>
          have hlt : r < w.heap.size := (Array.getElem?_eq_some_iff.1 hmp).1
          rcases hcase with ⟨rfl, h2⟩ | ⟨h1, h2, h3⟩
          · exact ⟨h2 r hlt, hU2 r (by omega)⟩
          · have hne : r ≠ g := fun e' => by
              subst e'
              rcases hown.2 with ⟨h0, _⟩ | ⟨g2, _, _, h0, _, hg2, _⟩
              · rw [h0] at h1; cases h1
              · rw [h0] at h1
                injection h1 with h1
                have h1' : g2 = r := h1
                subst h1'
                rw [hmp] at hg2; cases hg2
            exact ⟨h2 r hne, hU2 r hne⟩
        intro b' o' u' hc ho'
        have hlt := World.block_lt_of_cell? w _ hc
        have hlt' : b' < w.heap.size := hlt
        rcases hcase with ⟨rfl, h2⟩ | ⟨h1, h2, h3⟩
        · exact ⟨(World.cell?_of_block (h2 b' hlt')).trans hc, by rw [hU2 b' (by omega)]; exact ho'⟩
        · by_cases hbg : b' = g
          · subst hbg
            have hu := (hU b' h1).1
            rw [hu] at ho'
            exact ⟨(h3 o' ho').trans hc, by rw [hU1]; exact Nat.lt_of_lt_of_le ho' (Nat.mul_le_mul_right _ (by omega))⟩
          · exact ⟨(World.cell?_of_block (h2 b' hbg)).trans hc, by rw [hU2 b' hbg]; exact ho'⟩
      have hgB : w0.heap.size ≤ g := by
        rcases hcase with ⟨rfl, _⟩ | ⟨h1, _⟩
        · exact hs.b.size
        · exact (hbl g h1).1
      have hnew : ∀ k b', (σ.n k).live = true → some k ≠ kill → F.S k b' → b' ≠ g := by
        intro k b' hl hkk hb' e'
        rcases hcase with ⟨rfl, _⟩ | ⟨h1, _⟩
        · have := live_lt hF hl hb'; omega
        · obtain ⟨_, q, hq, hql, hqb⟩ := hU g h1
          subst e'
          exact hkk (by rw [hq]; exact congrArg some (hF.i k q b' hl hql hb' hqb))
      have hfit := hF.name (kill := kill) (bo := some g) (γv := .slice (some ⟨g, 0, none⟩) (rows.length + n') cap) (U' := U') (w' := w') (ob := .ow e i.size (rows ++ rows')) (av := .ow m) (v := .slice (some ⟨g, 0, none⟩) (rows.length + n') cap) (m := m) hf hE
        (fun b' hb' => hU2 b' (by omega))
        (fun k b' hl hkk hb' hlt => ⟨by
          rcases hcase with ⟨rfl, h2⟩ | ⟨h1, h2, h3⟩
          · exact h2 b' hlt
          · exact h2 b' (hnew k b' hl hkk hb'), hU2 b' (hnew k b' hl hkk hb')⟩)
        (fun k b' hl hkk hb' e' => hnew k b' hl hkk hb' (by injection e' with e'; exact e'.symm))
        ⟨xs ++ news, by
          show w'.ownsRow _ _ _ (if m = m then _ else _) _ _
          rw [if_pos rfl, List.length_append, hn]; exact hown', by rw [List.flatten_append]; exact (hrc.append g5).ext hE, fun r hr => (List.mem_append.1 hr).elim (hrz r) (g3 r), fun b' => by
          show (if m = m then some g = some b' else _) ↔ (if m = m then _ else _ : Value).ownBlock = some b'
          rw [if_pos rfl, if_pos rfl]; rfl, fun b' hb' => by
          have hb'' : (if m = m then some g = some b' else _) := hb'
          rw [if_pos rfl] at hb''
          injection hb'' with hb''
          subst hb''
          rw [List.length_append, hn]
          exact hU1⟩
        hd hs.s (by show _ = (if m = m then _ else _); rw [if_pos rfl]) rn
      exact hK _ _ ⟨by rw [put_defers]; exact hs.d, by rw [put_size]; exact hs.s, hs.b.trans hB, _, hfit⟩
theorem op_append {o : Oper} {σ : AS} {t e : TypeId} {s x : Operand} (m : Nat) (ho : o.op = .call { callee := .builtin .append, args := #[s, x], argTypes := #[t, t] })
    {i : TypeInfo} {zv : Value} (ht : P.underlying t = some (.slice e)) (hi : P.info? e = some i) (hzv : i.zero = some zv) (hzs : Nat.beq zv.cells.size i.size = true) (hz0 : Nat.blt 0 i.size = true) {m0 : Nat} {rows rows' : List (List DV)} {rn : List Nat}
    (hs : σ.ev s = .ow m0) (hm : σ.n m0 = .ow e i.size rows) (hx : AvD σ (σ.ev x) (.sl i.size rows') rn) (h63 : rows.length + rows'.length ≤ 9223372036854775807) (hbytes : (rows.length + rows'.length) * i.bytes ≤ 140737488355328) (hd : dOk o N = true) :
    OpS P N w0 U0 o σ ⟨o.dst.map fun d => (d, .ow m), [(m, .ow e i.size (rows ++ rows')), (m0, .no)], m0 :: rn, [m]⟩ := by
  intro σ' hok a w hst K Q hK
  obtain ⟨F, hF⟩ := hst.f
  have h1 : a.eval s = F.γ m0 := ev_get hok hF (x := s) (by simp [ho, Op.operands, Call.operands]) hs
  have h2 := ev_get hok hF (x := x) (by simp [ho, Op.operands, Call.operands]) rfl
  have h3 : Rd w F.U (a.eval x) (.sl i.size rows') := AvD.get hF hx (fun m hm => hok.n m (by simp [hm])) h2
  have hm' : σ'.n m0 = .ow e i.size rows := by rw [hok.n m0 (by simp)]; exact hm
  have hob := hF.n m0
  rw [hm'] at hob
  obtain ⟨xs, g1, g2, g3, g4, g5⟩ := hob
  rw [← h1] at g1
  simp only [← h1] at g4
  exact append_fit hF hst hd ho ht hi hzv (Nat.eq_of_beq_eq_true hzs) (Nat.le_of_ble_eq_true hz0) (kill := some m0) (hok.f m (by simp)) g1 g2 g3 (fun b hb => ⟨g5 b ((g4 b).2 hb), m0, rfl, by rw [hm']; rfl, (g4 b).2 hb⟩) h3 h63 hbytes _ hK
theorem op_append_nil {o : Oper} {σ : AS} {t e : TypeId} {s x : Operand} (m : Nat) (ho : o.op = .call { callee := .builtin .append, args := #[s, x], argTypes := #[t, t] })
    {i : TypeInfo} {zv : Value} (ht : P.underlying t = some (.slice e)) (hi : P.info? e = some i) (hzv : i.zero = some zv) (hzs : Nat.beq zv.cells.size i.size = true) (hz0 : Nat.blt 0 i.size = true) {rows' : List (List DV)} {rn : List Nat}
    (hs : σ.ev s = .d (.fl (.slice none 0 0))) (hx : AvD σ (σ.ev x) (.sl i.size rows') rn) (h63 : rows'.length ≤ 9223372036854775807) (hbytes : rows'.length * i.bytes ≤ 140737488355328) (hd : dOk o N = true) :
    OpS P N w0 U0 o σ ⟨o.dst.map fun d => (d, .ow m), [(m, .ow e i.size rows')], rn, [m]⟩ := by
  intro σ' hok a w hst K Q hK
  obtain ⟨F, hF⟩ := hst.f
  have h1 := flat_val (ev_get hok hF (x := s) (by simp [ho, Op.operands, Call.operands]) hs)
  have h2 := ev_get hok hF (x := x) (by simp [ho, Op.operands, Call.operands]) rfl
  have h3 : Rd w F.U (a.eval x) (.sl i.size rows') := AvD.get hF hx (fun m hm => hok.n m (by simp [hm])) h2
  exact append_fit (rows := []) (xs := []) hF hst hd ho ht hi hzv (Nat.eq_of_beq_eq_true hzs) (Nat.le_of_ble_eq_true hz0) (kill := none) (hok.f m (by simp)) (by rw [h1]; exact World.ownsRow_nil _ _ _ _) ⟨Rds.nil, fun u hu => by cases hu⟩ (fun r hr => by cases hr) (fun b hb => by rw [h1] at hb; cases hb) h3 (by simpa using h63) (by simpa using hbytes) _ (by simpa using hK)
end
end Go.Proofs.Ytobgdemhadlgnaa.Av

namespace Go.Proofs.Ytobgdemhadlgnaa.Av
open Go Go.RowKit
inductive RV where
  | d (x : DV)
  | tu (l : List DV)
def RV.av : RV → AV
  | .d x => .d x
  | .tu l => .tu l
def Rres (w : World) (U : Nat → Nat) (v : Value) : RV → Prop
  | .d x => Rd w U v x
  | .tu l => ∃ vs : Array Value, v = .tuple vs ∧ Rds w U vs.toList l
theorem Rres.av {w : World} {F : Fr} {v : Value} {r : RV} (h : Rres w F.U v r) : Rav w F r.av v := by cases r <;> exact h
/-- a function takes such data to such a result -/
def Ctr (P : Program) (f : FuncId) (args : List DV) (r : RV) : Prop :=
  ∀ (vals : List Value) (U : Nat → Nat) (w : World), Rds w U vals args → Calls P f vals.toArray w fun e w' => ∃ v U', e = .returned v ∧ Below w.heap.size w w' ∧ (∀ b, b < w.heap.size → U' b = U b) ∧ Rres w' U' v r
section
variable {P : Program} {N : Nat} {w0 : World} {U0 : Nat → Nat}
inductive ArgsS (σ : AS) : List Operand → List DV → List Nat → Prop
  | nil : ArgsS σ [] [] []
  | cons {x : Operand} {xs : List Operand} {d : DV} {ds : List DV} {rn rns : List Nat} {v : AV} (hv : σ.ev x = v) (h : AvD σ v d rn) (hs : ArgsS σ xs ds rns) : ArgsS σ (x :: xs) (d :: ds) (rn ++ rns)
theorem ArgsS.get {σ σ' : AS} {a : Act} {w : World} {F : Fr} (hF : Fits w0 U0 σ' a w F) {xs : List Operand} {ds : List DV} {rns : List Nat} (h : ArgsS σ xs ds rns) (hrn : ∀ m ∈ rns, σ'.n m = σ.n m) (hev : ∀ x ∈ xs, σ'.ev x = σ.ev x) : Rds w F.U (xs.map a.eval) ds := by
  induction h with
  | nil => exact Rds.nil
  | @cons x xs d ds rn rns v hv h hs ih =>
    refine Rds.cons ?_ (ih (fun m hm => hrn m (List.mem_append.2 (.inr hm))) (fun y hy => hev y (by simp [hy])))
    have := hF.ev x
    rw [hev x (by simp), hv] at this
    exact h.get hF (fun m hm => hrn m (List.mem_append.2 (.inl hm))) this
theorem run_call {f : FuncId} {fn : Func} (hf : P.funcs[f]? = some fn) (hn : (fn.name == "runtime.NumGoroutine") = false) (hb : fn.body.isNone = false) (args : Array Value) (w : World) : (callFunc f args).run P w = .ok (.enter f args) w := by
  unfold callFunc
  have hp : (program).run P w = .ok P w := rfl
  rw [Sem.run_bind, hp]
  simp only [Result.andThen_ok, hf]
  rw [hn, hb]
  rfl
theorem op_call {o : Oper} {σ : AS} {f : FuncId} {args : Array Operand} {ats : Array TypeId} (ho : o.op = .call { callee := .value (.func f), args := args, argTypes := ats }) {fn : Func} (hf : P.funcs[f]? = some fn) (hn : (fn.name == "runtime.NumGoroutine") = false) (hb : fn.body.isNone = false)
    {ds : List DV} {rns : List Nat} {r : RV} (ha : ArgsS σ args.toList ds rns) (hc : Ctr P f ds r) (hd : dOk o N = true) : OpS P N w0 U0 o σ ⟨o.dst.map fun d => (d, r.av), [], rns, []⟩ := by
  intro σ' hok a w hs K Q hK
  obtain ⟨F, hF⟩ := hs.f
  have hR := ha.get hF hok.n (fun x hx => ev_ok hok (by simp [ho, Op.operands, Call.operands]; exact .inr (by simpa using hx)))
  have hcall := hc _ F.U w hR
  unfold Oper.wp
  have hex : (execOp a.eval o).run P w = .ok (.enter f (args.toList.map a.eval).toArray) w := by
    unfold execOp
    simp only [ho, resolve, Act.eval, Deferred.ofValue, invoke, Sem.run_bind, Sem.run_pure, Result.andThen_ok]
    have e1 : (#[] ++ Array.map a.eval args ++ #[] : Array Value) = (args.toList.map a.eval).toArray := by
      apply Array.ext'
      simp
    rw [e1]
    exact run_call hf hn hb _ w
  rw [hex, Oper.upon_enter]
  refine Calls.mono hcall ?_
  rintro e w' ⟨v, U', rfl, h1, h2, h3⟩
  have hfit := hF.put (U' := U') hs.b.size ⟨h1.block, h2⟩ hd hs.s (av := r.av) (v := v) (Rres.av (F := { F with U := U' }) h3) rns []
  exact hK _ _ ⟨by rw [put_defers]; exact hs.d, by rw [put_size]; exact hs.s, hs.b.trans (h1.mono hs.b.size), _, hfit⟩
/-! ### a body's results -/
inductive Res1 (P : Program) (σ : AS) : ResultVar → DV → Prop
  | tmp {t : Tmp} {v : AV} {d : DV} {rn : List Nat} (hv : σ.t t = v) (h : AvD σ v d rn) : Res1 P σ (.tmp t) d
  | cell {a : Tmp} {ty : TypeId} {m : Nat} {ty' : TypeId} {cs : List DV} {desc : TypeDesc} {i : TypeInfo} {d : DV} (ha : (σ.t a).ptOf = some (m, 0)) (hm : σ.n m = .bx ty' cs) (hu : P.underlying ty = some desc) (hg : aggD desc = true) (hi : P.info? ty = some i) (hl : Nat.beq cs.length i.size = true) (hc : Cv (.ag cs) d) : Res1 P σ (.cell a ty) d
  | cell1 {a : Tmp} {ty : TypeId} {m : Nat} {ty' : TypeId} {x : DV} {desc : TypeDesc} {d : DV} (ha : (σ.t a).ptOf = some (m, 0)) (hm : σ.n m = .bx ty' [x]) (hu : P.underlying ty = some desc) (hg : aggD desc = false) (hc : Cv x d) : Res1 P σ (.cell a ty) d
inductive ResL (P : Program) (σ : AS) : List ResultVar → List DV → Prop
  | nil : ResL P σ [] []
  | cons {r : ResultVar} {rs : List ResultVar} {d : DV} {ds : List DV} (h : Res1 P σ r d) (hs : ResL P σ rs ds) : ResL P σ (r :: rs) (d :: ds)
def RV.of : List DV → RV
  | [x] => .d x
  | l => .tu l
def resVal (a : Act) (rv : ResultVar) : Sem Value := match rv with
  | .tmp t => pure (a.tmps.getD t undef)
  | .cell c t => do loadVar t (← asAddr (a.tmps.getD c undef))
theorem ptv {w : World} {F : Fr} {x : AV} {v : Value} (h : Rav w F x v) {m p : Nat} (hp : x.ptOf = some (m, p)) : ∃ b, F.β m = some b ∧ v = .pointer (some ⟨b, p, none⟩) := by
  cases x with
  | pt m' p' =>
    simp only [AV.ptOf, Option.some.injEq, Prod.mk.injEq] at hp
    obtain ⟨rfl, rfl⟩ := hp
    exact h
  | pv m' x' =>
    simp only [AV.ptOf, Option.some.injEq, Prod.mk.injEq] at hp
    obtain ⟨rfl, rfl⟩ := hp
    obtain ⟨rfl, b, h1, h2⟩ := h
    exact ⟨b, h1, h2⟩
  | _ => simp [AV.ptOf] at hp
theorem Res1.run {σ : AS} {a : Act} {w : World} {F : Fr} (hF : Fits w0 U0 σ a w F) {rv : ResultVar} {d : DV} (h : Res1 P σ rv d) : ∃ v, (resVal a rv).run P w = .ok v w ∧ Rd w F.U v d := by
  cases h with
  | @tmp t v d rn hv h =>
    have := hF.t t
    rw [hv] at this
    exact ⟨_, rfl, h.get hF (fun _ _ => rfl) this⟩
  | @cell ad ty m ty' cs desc i d ha hm hu hg hi hl hc =>
    obtain ⟨b, hb, hv⟩ := ptv (hF.t ad) ha
    obtain ⟨_, _, vs, h3, h4⟩ := box_get hF hm hb
    have hlv : vs.toList.length = i.size := by rw [h4.1.1]; exact Nat.eq_of_beq_eq_true hl
    refine ⟨.agg vs.toList.toArray, ?_, hc w F.U _ (.ag _ _ (by simpa using h4.1.1) (by simpa using h4.2) (by simpa using h4.1.2))⟩
    have := run_load_many (P := P) hu hg hi (w := w) (b := b) (o := 0) hlv (fun j u hu => by rw [Nat.zero_add, cell_of_row w b j vs ty' (0, 0) h3]; simpa using hu)
    simp only [resVal, hv, asAddr, Sem.run_bind, Sem.run_pure, Result.andThen_ok, this]
  | @cell1 ad ty m ty' x desc d ha hm hu hg hc =>
    obtain ⟨b, hb, hv⟩ := ptv (hF.t ad) ha
    obtain ⟨_, _, vs, h3, h4⟩ := box_get hF hm hb
    have hl := h4.1.1
    obtain ⟨u, hu'⟩ : ∃ u, vs.toList = [u] := by
      match h : vs.toList, hl with
      | [u], _ => exact ⟨u, rfl⟩
    refine ⟨u, ?_, hc w F.U _ (h4.1.2 0 u x (by rw [hu']; rfl) rfl)⟩
    have hv0 : vs.toList[0]? = some u := by rw [hu']; rfl
    have := run_load_one (P := P) hu hg (w := w) (b := b) (o := 0) (u := u) (by rw [cell_of_row w b 0 vs ty' (0, 0) h3]; simpa using hv0)
    simp only [resVal, hv, asAddr, Sem.run_bind, Sem.run_pure, Result.andThen_ok, this]
theorem ResL.run {σ : AS} {a : Act} {w : World} {F : Fr} (hF : Fits w0 U0 σ a w F) {rs : List ResultVar} {ds : List DV} (h : ResL P σ rs ds) : ∃ vs : List Value, (rs.mapM (resVal a)).run P w = .ok vs w ∧ Rds w F.U vs ds := by
  induction h with
  | nil => exact ⟨[], rfl, Rds.nil⟩
  | cons h hs ih =>
    obtain ⟨v, h1, h2⟩ := h.run hF
    obtain ⟨vs, h3, h4⟩ := ih
    refine ⟨v :: vs, ?_, Rds.cons h2 h4⟩
    simp [List.mapM_cons, h1, h3]
def retR (P : Program) (rs : Array ResultVar) (r : RV) : Exit → AS → Prop
  | .normal, σ | .ret, σ => ∃ ds, ResL P σ rs.toList ds ∧ RV.of ds = r
  | _, _ => False
def args0 : List DV → Nat → List (Nat × AV)
  | [], _ => []
  | x :: xs, i => (i, .d x) :: args0 xs (i + 1)
theorem args0_get : ∀ (xs : List DV) (i t : Nat), lk (args0 xs i) t = if h : i ≤ t ∧ t - i < xs.length then .d xs[t - i] else .un := by
  intro xs
  induction xs with
  | nil => intro i t; simp [args0, lk]
  | cons x xs ih =>
    intro i t
    show (bif Nat.beq i t then AV.d x else lk (args0 xs (i + 1)) t) = _
    by_cases h : i = t
    · subst h; rw [Nat.beq_refl]; simp
    · rw [nbeq h, cond_false, ih]
      by_cases h1 : i + 1 ≤ t ∧ t - (i + 1) < xs.length
      · rw [dif_pos h1, dif_pos ⟨by omega, by simp; omega⟩]
        have e : t - i = (t - (i + 1)) + 1 := by omega
        simp only [e, List.getElem_cons_succ]
      · rw [dif_neg h1, dif_neg (by simp; omega)]
theorem ctr_intro {f : FuncId} {fn : Func} {c : Code} {args : List DV} {r : RV} (hf : P.funcs[f]? = some fn) (hb : fn.body = some c) (hn : Nat.ble args.length fn.ntmps = true)
    (h : ∀ w0 U0, A P fn.ntmps w0 U0 c (retR P fn.results r) (SS (args0 args 0) [])) : Ctr P f args r := by
  intro vals U w hR
  have hle := Nat.le_of_ble_eq_true hn
  have hsz : (vals.toArray ++ Array.replicate (fn.ntmps - vals.toArray.size) undef).size = fn.ntmps := by simp [hR.1]; omega
  refine calls_of_wp hf hb ((h w U).go _ _ ⟨rfl, hsz, Below.refl _ _, ⟨fun _ => none, fun _ => undef, U, fun _ _ => False⟩, fun _ _ => rfl, fun t => ?_, fun m => trivial, fun m m' b h => by cases h⟩ _ (fun e σ' a' w' hr hs' => ?_))
  · show Rav w _ (lk (args0 args 0) t) _
    rw [args0_get]
    split
    · rename_i ht
      have hl := hR.1
      have ht' : t < args.length := by simpa using ht.2
      have hv : (vals.toArray ++ Array.replicate (fn.ntmps - vals.toArray.size) undef).getD t undef = vals[t]'(by omega) := by
        rw [Array.getD_eq_getD_getElem?, Array.getElem?_append_left (by simp; omega)]
        simp [List.getElem?_eq_getElem (show t < vals.length by omega)]
      rw [hv]
      exact hR.2 t _ _ (List.getElem?_eq_getElem (by omega)) (by simp [List.getElem?_eq_getElem ht'])
    · trivial
  · have key : (∃ ds, ResL P σ' fn.results.toList ds ∧ RV.of ds = r) → a'.defers = [] ∧ ∃ v, (results fn a'.tmps).run P w' = .ok v w' ∧ ∃ v' U', Ending.returned v = .returned v' ∧ Below w.heap.size w w' ∧ (∀ b, b < w.heap.size → U' b = U b) ∧ Rres w' U' v' r := by
      rintro ⟨ds, hL, hr⟩
      obtain ⟨F, hF⟩ := hs'.f
      obtain ⟨vs, h1, h2⟩ := hL.run hF
      have hm : (fn.results.mapM (resVal a')).run P w' = .ok vs.toArray w' := by
        rw [Array.mapM_eq_mapM_toList]
        simp [h1]
      refine ⟨hs'.d, if hh : vs.toArray.size = 1 then vs.toArray[0] else .tuple vs.toArray, ?_, _, F.U, rfl, hs'.b, hF.u, ?_⟩
      · have hres : results fn a'.tmps = (fn.results.mapM (resVal a') >>= fun vs => pure (if h : vs.size = 1 then vs[0] else .tuple vs)) := rfl
        rw [hres, Sem.run_bind, hm]
        rfl
      · subst hr
        have hl := h2.1
        match vs, ds, hl, h2 with
        | [], [], _, h2 => exact ⟨_, rfl, h2⟩
        | [v], [d], _, h2 => exact h2.2 0 v d rfl rfl
        | v :: v2 :: vs, d :: d2 :: ds, _, h2 =>
          have : ¬ ((v :: v2 :: vs).toArray.size = 1) := by simp
          rw [dif_neg this]
          exact ⟨_, rfl, h2⟩
    cases e with
    | normal => exact key hr
    | ret => exact key hr
    | _ => exact hr.elim
/-! ### slices of parts -/
theorem run_sizeOf' {t : TypeId} {i : TypeInfo} (hi : P.info? t = some i) (w : World) : (sizeOf t).run P w = .ok i.size w := by simp [sizeOf, typeInfo, hi]
end
end Go.Proofs.Ytobgdemhadlgnaa.Av

namespace Go.Proofs.Ytobgdemhadlgnaa.Av
open Go Go.RowKit
section
variable {P : Program} {N : Nat} {w0 : World} {U0 : Nat → Nat}
def TI (P : Program) (t : TypeId) (z : Value) (s b : Nat) : Prop := ∃ i, P.info? t = some i ∧ i.zero = some z ∧ i.size = s ∧ i.bytes = b
theorem ti_of {t : TypeId} {z : Value} {s b : Nat} (h : (P.info? t).map (fun i => (i.zero, i.size, i.bytes)) = some (some z, s, b)) : TI P t z s b := info_parts h
/-! ### parts -/
theorem fold_splice (off : Nat) : ∀ (l : List Value) (k : Nat) (acc : Array Value), off + k + l.length ≤ acc.size →
    ((l.zipIdx k).foldl (fun cs (p : Value × Nat) => cs.setIfInBounds (off + p.2) p.1) acc) = (acc.toList.take (off + k) ++ l ++ acc.toList.drop (off + k + l.length)).toArray := by
  intro l
  induction l with
  | nil => intro k acc _; simp
  | cons v l ih =>
    intro k acc h
    simp only [List.length_cons] at h
    simp only [List.zipIdx_cons, List.foldl_cons]
    rw [ih (k + 1) _ (by simp; omega)]
    congr 1
    simp only [Array.toList_setIfInBounds, List.length_cons]
    have h1 : (acc.toList.set (off + k) v).take (off + (k + 1)) = acc.toList.take (off + k) ++ [v] := by
      rw [show off + (k + 1) = off + k + 1 by omega, List.take_succ_eq_append_getElem (by simp; omega), List.take_set_of_le (Nat.le_refl _)]
      simp
    have h2 : (acc.toList.set (off + k) v).drop (off + (k + 1) + l.length) = acc.toList.drop (off + k + (l.length + 1)) := by
      rw [List.drop_set_of_lt (by omega)]
      congr 1
      omega
    rw [h1, h2]
    simp
def spl : List DV → List (Nat × DV) → List DV
  | cs, [] => cs
  | cs, (off, v) :: r => spl (cs.take off ++ dvCells v ++ cs.drop (off + (dvCells v).length)) r
/-- parts that read as data, at their places -/
inductive Pts (w : World) (U : Nat → Nat) (place : Nat → Option (Nat × Nat)) (n : Nat) : List (Nat × Value) → List (Nat × DV) → Prop
  | nil : Pts w U place n [] []
  | cons {i off s : Nat} {v : Value} {x : DV} {ps : List (Nat × Value)} {ds : List (Nat × DV)} (hp : place i = some (off, s)) (hv : Rd w U v x) (h1 : x.one = true) (hl : (dvCells x).length = s) (hn : off + s ≤ n) (hs : Pts w U place n ps ds) : Pts w U place n ((i, v) :: ps) ((off, x) :: ds)
theorem fill_rc {w : World} {U : Nat → Nat} {place : Nat → Option (Nat × Nat)} {n : Nat} {ps : List (Nat × Value)} {ds : List (Nat × DV)} (h : Pts w U place n ps ds) : ∀ (cells : Array Value) (cs : List DV), cells.size = n → Rc w U cells.toList cs → ∃ cells', Instr.fill place cells ps = some cells' ∧ cells'.size = n ∧ Rc w U cells'.toList (spl cs ds) := by
  induction h with
  | nil => intro cells cs hs hc; exact ⟨cells, rfl, hs, hc⟩
  | @cons i off s v x ps ds hp hv h1 hl hn hs ih =>
    intro cells cs hsz hc
    have hcv := cells_of hv h1
    have hvl : v.cells.size = s := by have := hcv.1.1; simp at this; omega
    have hfold := fold_splice off v.cells.toList 0 cells (by simp; omega)
    simp only [Nat.add_zero] at hfold
    have hrc := hc.splice hcv off
    have hzip : v.cells.zipIdx.toList = v.cells.toList.zipIdx := Array.toList_zipIdx
    have hsz2 : (cells.toList.take off ++ v.cells.toList ++ cells.toList.drop (off + v.cells.toList.length)).toArray.size = n := by
      simp; omega
    obtain ⟨cells', g1, g2, g3⟩ := ih (cells.toList.take off ++ v.cells.toList ++ cells.toList.drop (off + v.cells.toList.length)).toArray (cs.take off ++ dvCells x ++ cs.drop (off + (dvCells x).length)) hsz2 (by simpa using hrc)
    refine ⟨cells', ?_, g2, g3⟩
    have hcond : (v.cells.size ≠ s || off + v.cells.size > cells.size) = false := by
      have h2 : ¬ (off + s > cells.size) := by omega
      simp [hvl]
      omega
    simp only [Instr.fill, hp]
    rw [← Array.foldl_toList, hzip]
    have hfold' : (v.cells.toList.zipIdx.foldl (fun cs x => match x with | (c, j) => cs.setIfInBounds (off + j) c) cells) = _ := hfold
    rw [hfold', ← g1]
    rw [if_neg (by rw [hcond]; simp)]
inductive PtsS (σ : AS) (place : Nat → Option (Nat × Nat)) (n : Nat) : List (Nat × Operand) → List (Nat × DV) → List Nat → Prop
  | nil : PtsS σ place n [] [] []
  | cons {i off s : Nat} {o : Operand} {av : AV} {x : DV} {ps : List (Nat × Operand)} {ds : List (Nat × DV)} {rn rns : List Nat} (hp : place i = some (off, s)) (ho : σ.ev o = av) (hv : AvD σ av x rn) (h1 : x.one = true) (hl : Nat.beq (dvCells x).length s = true) (hn : Nat.ble (off + s) n = true) (hs : PtsS σ place n ps ds rns) : PtsS σ place n ((i, o) :: ps) ((off, x) :: ds) (rn ++ rns)
theorem PtsS.get {σ σ' : AS} {a : Act} {w : World} {F : Fr} (hF : Fits w0 U0 σ' a w F) {place : Nat → Option (Nat × Nat)} {n : Nat} {ps : List (Nat × Operand)} {ds : List (Nat × DV)} {rns : List Nat} (h : PtsS σ place n ps ds rns) (hrn : ∀ m ∈ rns, σ'.n m = σ.n m) (hev : ∀ p ∈ ps, σ'.ev p.2 = σ.ev p.2) : Pts w F.U place n (ps.map fun p => (p.1, a.eval p.2)) ds := by
  induction h with
  | nil => exact .nil
  | @cons i off s o av x ps ds rn rns hp ho hv h1 hl hn hs ih =>
    refine .cons hp ?_ h1 (Nat.eq_of_beq_eq_true hl) (Nat.le_of_ble_eq_true hn) (ih (fun m hm => hrn m (List.mem_append.2 (.inr hm))) (fun p hp => hev p (by simp [hp])))
    have := hF.ev o
    rw [hev (i, o) (by simp), ho] at this
    exact hv.get hF (fun m hm => hrn m (List.mem_append.2 (.inl hm))) this
def placesOf (P : Program) (fs : Array Field) : Array (Nat × Nat) := fs.map fun f => (f.offset, P.cellsOf f.type)
theorem run_places {fs : Array Field} (h : ∀ f ∈ fs, (P.info? f.type).isSome = true) (w : World) : (fs.mapM fun f => do pure (f.offset, ← sizeOf f.type) : Sem (Array (Nat × Nat))).run P w = .ok (placesOf P fs) w := by
  rw [Array.mapM_eq_mapM_toList]
  have key : ∀ l : List Field, (∀ f ∈ l, (P.info? f.type).isSome = true) → (l.mapM fun f => do pure (f.offset, ← sizeOf f.type) : Sem (List (Nat × Nat))).run P w = .ok (l.map fun f => (f.offset, P.cellsOf f.type)) w := by
    intro l
    induction l with
    | nil => intro _; rfl
    | cons f l ih =>
      intro h
      have hf := h f (by simp)
      obtain ⟨i, hi⟩ := Option.isSome_iff_exists.1 hf
      have h2 := ih (fun g hg => h g (by simp [hg]))
      simp only [List.mapM_cons, Sem.run_bind, run_sizeOf' hi, Result.andThen_ok, Sem.run_pure] at h2 ⊢
      rw [h2]
      simp [Program.cellsOf, hi]
  have := key fs.toList (fun f hf => h f (by simpa using hf))
  rw [Sem.run_map, this]
  simp only [Result.andThen_ok, placesOf]
  congr 1
  apply Array.ext'
  simp
theorem op_build {o : Oper} {σ : AS} {t : TypeId} {parts : Array (Nat × Operand)} (ho : o.op = .build t parts) {fs : Array Field} (hu : P.underlying t = some (.struct fs)) {z : Value} {s b : Nat} (hi : TI P t z s b) (hz : Nat.beq z.cells.size s = true) (h1 : (z.cells.all fun u => u.oneCell') = true) (hfs : (fs.all fun f => (P.info? f.type).isSome) = true)
    {pl : Array (Nat × Nat)} (hpl : placesOf P fs = pl) {ds : List (Nat × DV)} {rns : List Nat} (hp : PtsS σ (fun i => pl[i]?) s parts.toList ds rns) (hd : dOk o N = true) : OpS P N w0 U0 o σ ⟨o.dst.map fun d => (d, .d (.ag (spl (zeroDV z) ds))), [], rns, []⟩ :=
  opS_still (P := P) (av := .d (.ag (spl (zeroDV z) ds))) hd fun σ' hok a w F hF => by
    obtain ⟨i, g1, g2, g3, g4⟩ := hi
    have hpts := hp.get hF hok.n (fun p hp' => ev_ok hok (by simp only [ho, Op.operands]; simpa using ⟨p.1, by simpa using hp'⟩))
    have hzs := Nat.eq_of_beq_eq_true hz
    have hrc : Rc w F.U z.cells.toList (zeroDV z) := ⟨⟨by simp [zeroDV], fun j u x hu hx => by
      unfold zeroDV at hx
      rw [List.getElem?_map, hu] at hx
      simp at hx
      subst hx
      exact .fl u⟩, fun u hu => Array.all_eq_true_iff_forall_mem.1 h1 u (by simpa using hu)⟩
    obtain ⟨cells', e1, e2, e3⟩ := fill_rc hpts z.cells (zeroDV z) hzs hrc
    refine ⟨.agg cells', ?_, .ag cells' _ (by have := e3.1.1; simpa using this) e3.2 e3.1.2⟩
    have hzv : (zeroValue t).run P w = .ok z w := by simp [zeroValue, typeInfo, g1, g2]
    have hplr := run_places (P := P) (fs := fs) (fun f hf => Array.all_eq_true_iff_forall_mem.1 hfs f hf) w
    rw [hpl] at hplr
    have e1' : Instr.fill (fun i => pl[i]?) z.cells ((parts.map fun x => match x with | (i, x) => (i, a.eval x)).toList) = some cells' := by
      rw [Array.toList_map]; exact e1
    unfold execOp
    simp only [ho, Instr.build, Sem.run_bind, hzv, Result.andThen_ok, run_underlying hu]
    rw [hplr]
    simp only [Result.andThen_ok]
    rw [e1']
    rfl
theorem spl_dense {z : Nat} : ∀ (xs : List DV) (k : Nat) (pre cs : List DV), (∀ x ∈ xs, (dvCells x).length = z) → pre.length = k * z → cs.length = xs.length * z → spl (pre ++ cs) ((xs.zipIdx k).map fun p => (p.2 * z, p.1)) = pre ++ (xs.map dvCells).flatten := by
  intro xs
  induction xs with
  | nil => intro k pre cs _ _ hc; have : cs = [] := List.eq_nil_of_length_eq_zero (by simpa using hc)
           subst this; simp [spl]
  | cons x xs ih =>
    intro k pre cs hx hp hc
    have hxl := hx x (by simp)
    simp only [List.length_cons, Nat.succ_mul] at hc
    simp only [List.zipIdx_cons, List.map_cons, spl, List.flatten_cons]
    have e1 : (pre ++ cs).take (k * z) = pre := by rw [← hp]; simp
    have e2 : (pre ++ cs).drop (k * z + (dvCells x).length) = cs.drop z := by rw [← hp, hxl, List.drop_append, List.drop_eq_nil_of_le (by omega)]; simp
    rw [e1, e2]
    have := ih (k + 1) (pre ++ dvCells x) (cs.drop z) (fun y hy => hx y (by simp [hy])) (by simp [hp, hxl, Nat.succ_mul]) (by simp; omega)
    rw [this]
    simp
theorem op_slices {o : Oper} {σ : AS} {t : TypeId} {n : Nat} {parts : Array (Nat × Operand)} (ho : o.op = .buildSlice t n parts) {e : TypeId} {z : Value} {s b : Nat} (ht : P.underlying t = some (.slice e)) (hi : TI P e z s b) (hz : Nat.beq z.cells.size s = true) (hz0 : Nat.blt 0 s = true) (hz1 : Nat.ble (n * s) 16777216 = true) (h1 : (z.cells.all fun u => u.oneCell') = true)
    {xs : List DV} {rns : List Nat} (hxn : Nat.beq xs.length n = true) (hxl : (xs.all fun x => Nat.beq (dvCells x).length s) = true) (hp : PtsS σ (fun i => some (i * s, s)) (n * s) parts.toList ((xs.zipIdx 0).map fun p => (p.2 * s, p.1)) rns) (hd : dOk o N = true) : OpS P N w0 U0 o σ ⟨o.dst.map fun d => (d, .d (.sl s (xs.map dvCells))), [], rns, []⟩ :=
  opS_val (P := P) (av := .d (.sl s (xs.map dvCells))) hd fun σ' hok a w F hF hs => by
    obtain ⟨i, g1, g2, g3, g4⟩ := hi
    subst g3
    have hpts := hp.get hF hok.n (fun p hp' => ev_ok hok (by simp only [ho, Op.operands]; simpa using ⟨p.1, by simpa using hp'⟩))
    have hzs := Nat.eq_of_beq_eq_true hz
    have hz0' := Nat.le_of_ble_eq_true hz0
    have hz1' := Nat.le_of_ble_eq_true hz1
    have hxn' := Nat.eq_of_beq_eq_true hxn
    have hxl' : ∀ x ∈ xs, (dvCells x).length = i.size := fun x hx => Nat.eq_of_beq_eq_true (List.all_eq_true.1 hxl x hx)
    obtain ⟨zs, hzz⟩ : ∃ zs : Array Value, zs = ((Array.range (n * i.size)).map fun k => z.cells[k % z.cells.size]!) := ⟨_, rfl⟩
    have hzsz : zs.size = n * i.size := by rw [hzz]; simp
    have hone : ∀ u ∈ zs.toList, u.oneCell' = true := by
      intro u hu
      rw [hzz] at hu
      simp only [Array.toList_map, List.mem_map] at hu
      obtain ⟨k, hk, rfl⟩ := hu
      have hkl : k % z.cells.size < z.cells.size := Nat.mod_lt _ (by omega)
      rw [getElem!_pos z.cells (k % z.cells.size) hkl]
      exact Array.all_eq_true_iff_forall_mem.1 h1 _ (Array.getElem_mem hkl)
    have hrc : Rc w F.U zs.toList (zs.toList.map .fl) := ⟨⟨by simp, fun j u x hu hx => by
      rw [List.getElem?_map, hu] at hx
      simp at hx
      subst hx
      exact .fl u⟩, hone⟩
    obtain ⟨cells', e1, e2, e3⟩ := fill_rc hpts zs (zs.toList.map .fl) hzsz hrc
    have hspl := spl_dense (z := i.size) xs 0 [] (zs.toList.map .fl) hxl' (by simp) (by simp [hzsz, hxn'])
    simp only [List.nil_append] at hspl
    rw [hspl] at e3
    have hU2 : ∀ b, b < w.heap.size → (fun b => if b = w.heap.size then n * i.size else F.U b) b = F.U b := fun b hb => by simp; intro h; omega
    have hE : Ext w F.U (w.alloc (.cells cells' e)) (fun b => if b = w.heap.size then n * i.size else F.U b) := Up.ext ⟨fun b hlt => Below.heap_alloc w _ b hlt, hU2⟩
    refine ⟨.slice (some ⟨w.heap.size, 0, none⟩) n n, w.alloc (.cells cells' e), fun b => if b = w.heap.size then n * i.size else F.U b, ?_, (Below.refl _ _).alloc (Nat.le_refl _) _, hU2, ?_⟩
    · have hbig : ¬ (n * i.size > 2 ^ 24) := by omega
      have hzv' : ∀ w : World, (zeroValue e).run P w = .ok z w := fun w => by simp [zeroValue, typeInfo, g1, g2]
      have hnr : (newRow e cells').run P w = .ok ⟨w.heap.size, 0, none⟩ (w.alloc (.cells cells' e)) := by simp [newRow, newObj, Sem.run]
      have e1' : Instr.fill (fun j => some (j * i.size, i.size)) zs ((parts.map fun x => match x with | (i, x) => (i, a.eval x)).toList) = some cells' := by
        rw [Array.toList_map]; exact e1
      unfold execOp
      by_cases hn0 : n * i.size = 0
      · have hzs0 : ((Array.range (n * i.size)).map fun k => (#[] : Array Value)[k % (#[] : Array Value).size]!) = zs := by
          apply Array.ext'
          rw [hn0] at hzsz
          have : zs.toList = [] := by simpa using hzsz
          rw [this, hn0]
          simp
        simp only [ho, Instr.buildSlice, Sem.run_bind, run_underlying ht, Result.andThen_ok, run_sizeOf' g1, if_neg hbig, if_pos hn0, Sem.run_pure, hzs0, e1', hnr]
      · simp only [ho, Instr.buildSlice, Sem.run_bind, run_underlying ht, Result.andThen_ok, run_sizeOf' g1, if_neg hbig, if_neg hn0, Sem.run_pure, hzv', ← hzz, e1', hnr]
    · have hrz : ∀ r ∈ xs.map dvCells, r.length = i.size := fun r hr => by
        obtain ⟨x, hx, rfl⟩ := List.mem_map.1 hr
        exact hxl' x hx
      refine .sl w.heap.size 0 n n i.size (xs.map dvCells) (fun i' j => cells'.toList.getD (i' * i.size + j) undef) (by simp [hxn']) hrz (by
        have : n * 1 ≤ n * i.size := Nat.mul_le_mul_left n hz0'
        omega) (fun i' j y hy => ?_) (fun i' j y hy => ?_)
      all_goals
        unfold cellAt at hy
        obtain ⟨r, hr, hj⟩ := Option.bind_eq_some_iff.1 hy
        obtain ⟨k1, k2⟩ := flatten_get hrz hr hj
        rw [List.length_map, hxn'] at k2
        have hlt : i' * i.size + j < cells'.size := by omega
        have hu : cells'.toList[i' * i.size + j]? = some (cells'.toList.getD (i' * i.size + j) undef) := by simp [List.getD, hlt]
      · refine ⟨?_, ?_, e3.2 _ (List.mem_of_getElem? hu)⟩
        · simp only [Nat.zero_add, World.cell?_alloc_new]
          simpa using hu
        · simp only [Nat.zero_add, if_true]; exact k2
      · exact (e3.1.2 _ _ y hu k1).ext hE
/-! ### a row of the call's own is read -/
theorem op_len_ow {o : Oper} {σ : AS} {t e : TypeId} {x : Operand} (ho : o.op = .call { callee := .builtin .len, args := #[x], argTypes := #[t] }) (hu : P.underlying t = some (.slice e)) {m : Nat} {e' : TypeId} {z : Nat} {rows : List (List DV)} (hx : σ.ev x = .ow m) (hm : σ.n m = .ow e' z rows) (hd : dOk o N = true) : OpS P N w0 U0 o σ ⟨o.dst.map fun d => (d, .d (.fl (.int .i64 rows.length))), [], [m], []⟩ :=
  opS_still hd fun σ' hok a w F hF => by
    have h1 : Rd w F.U (a.eval x) (.sl z rows) := (AvD.ow hm).get hF (fun q hq => hok.n q (by simpa using hq)) (ev_get hok hF (x := x) (by simp [ho, Op.operands, Call.operands]) hx)
    obtain ⟨A, c, hv⟩ : ∃ A c, a.eval x = .slice A rows.length c := by
      generalize a.eval x = v at h1
      cases h1 with
      | sn A c z => exact ⟨A, c, rfl⟩
      | sl b off n c z rows u hn => exact ⟨_, c, by rw [hn]⟩
    exact ⟨_, by simp [execOp, ho, resolve, invoke, builtin, Builtin.len_, hv, run_underlying hu, goInt], .fl _⟩
theorem op_index_ow {o : Oper} {σ : AS} {t : TypeId} {x y : Operand} (ho : o.op = .indexAddr t x y) {e : TypeId} (hu : P.underlying t = some (.slice e)) {i : TypeInfo} (hi : P.info? e = some i) {m : Nat} {e' : TypeId} {rows : List (List DV)} (hx : σ.ev x = .ow m) (hm : σ.n m = .ow e' i.size rows)
    {k : IntKind} {n : Int} (hy : σ.ev y = .d (.fl (.int k n))) {r : List DV} (h0 : 0 ≤ n) (hr : rows[n.toNat]? = some r) (hd : dOk o N = true) : OpS P N w0 U0 o σ ⟨o.dst.map fun d => (d, .el r), [], [m], []⟩ :=
  opS_still hd fun σ' hok a w F hF => by
    have h1 : Rd w F.U (a.eval x) (.sl i.size rows) := (AvD.ow hm).get hF (fun q hq => hok.n q (by simpa using hq)) (ev_get hok hF (x := x) (by simp [ho, Op.operands]) hx)
    have h2 := flat_val (ev_get hok hF (x := y) (by simp [ho, Op.operands]) hy)
    obtain ⟨A, ln, c, hv⟩ : ∃ A ln c, a.eval x = .slice A ln c := by
      generalize a.eval x = v at h1
      cases h1 with
      | sn A c z => exact ⟨A, 0, c, rfl⟩
      | sl b off n c z rows u => exact ⟨_, n, c, rfl⟩
    rw [hv] at h1
    obtain ⟨b, off, rfl, hlt, h3⟩ := elem_at h1 hr
    refine ⟨_, ?_, h3⟩
    have hlt' : n < (ln : Int) := by omega
    simp [execOp, ho, hv, h2, Instr.indexAt, run_underlying hu, asIntOf, sizeOf, typeInfo, hi, h0, hlt', add_plain']
/-! ### strings -/
theorem op_strindex {o : Oper} {σ : AS} {t : TypeId} {x y : Operand} (ho : o.op = .index t x y) (hu : P.underlying t = some .string) {s : ByteArray} (hx : σ.ev x = .d (.fl (.string s))) {k : IntKind} {n : Int} (hy : σ.ev y = .d (.fl (.int k n))) (h0 : 0 ≤ n) {c : UInt8} (hc : s[n.toNat]? = some c) (hd : dOk o N = true) : OpS P N w0 U0 o σ ⟨o.dst.map fun d => (d, .d (.fl (.int .u8 c.toNat))), [], [], []⟩ :=
  opS_still hd fun σ' hok a w F hF => by
    have h1 := flat_val (ev_get hok hF (x := x) (by simp [ho, Op.operands]) hx)
    have h2 := flat_val (ev_get hok hF (x := y) (by simp [ho, Op.operands]) hy)
    exact ⟨_, by simp [execOp, ho, h1, h2, Instr.index, run_underlying hu, asIntOf, h0, hc], .fl _⟩
/-! ### the forms that are used -/
variable {ops : Array Oper} {k : Nat} {o : Oper} {L : List (Nat × AV)} {M : List (Nat × Ob)} {R : AS → Prop}
theorem og (hg : o.guard = none) {σ : AS} {e : Eff} (h : OpS P N w0 U0 o σ e) : OpG P N w0 U0 ops o σ e := by unfold OpG; rw [hg]; exact h
theorem oy {j : Nat} {want b : Bool} {d : Nat} (hg : o.guard = some (j, want)) (hj : ((ops[j]?).bind (·.dst)) = some d) {σ : AS} {e : Eff} (hb : σ.t d = .d (.fl (.bool b))) (he : b = want) (h : OpS P N w0 U0 o σ e) : OpG P N w0 U0 ops o σ e := by unfold OpG; rw [hg]; exact ⟨d, _, hj, hb, .inl ⟨by rw [he], h⟩⟩
theorem on {j : Nat} {want b : Bool} {d : Nat} (hg : o.guard = some (j, want)) (hj : ((ops[j]?).bind (·.dst)) = some d) {σ : AS} (hb : σ.t d = .d (.fl (.bool b))) (he : b = !want) : OpG P N w0 U0 ops o σ ⟨o.dst.map fun d => (d, .d (.fl undef)), [], [], []⟩ := by unfold OpG; rw [hg]; exact ⟨d, _, hj, hb, .inr ⟨fun b' h => by injection h with h; rw [← h, he]; cases want <;> simp, rfl⟩⟩
theorem ou {j : Nat} {want : Bool} {d : Nat} (hg : o.guard = some (j, want)) (hj : ((ops[j]?).bind (·.dst)) = some d) {σ : AS} (hb : σ.t d = .d (.fl undef)) : OpG P N w0 U0 ops o σ ⟨o.dst.map fun d => (d, .d (.fl undef)), [], [], []⟩ := by unfold OpG; rw [hg]; exact ⟨d, _, hj, hb, .inr ⟨(fun b' h => by cases h), rfl⟩⟩
theorem rg_put {d : Nat} {v : AV} {rn : List Nat} (ho : ops[k]? = some o) (h : OpG P N w0 U0 ops o (SS L M) ⟨some (d, v), [], rn, []⟩) (hr : RG P N w0 U0 ops (k + 1) (SS ((d, v) :: L) M) R) : RG P N w0 U0 ops k (SS L M) R :=
  rg_step ho h (fun m hm => by cases hm) (by rw [ap_ss]; exact hr)
theorem rg_skip (ho : ops[k]? = some o) (h : OpG P N w0 U0 ops o (SS L M) ⟨none, [], [], []⟩) (hr : RG P N w0 U0 ops (k + 1) (SS L M) R) : RG P N w0 U0 ops k (SS L M) R :=
  rg_step ho h (fun m hm => by cases hm) (by rw [ap_ss]; exact hr)
theorem rg_nam {d : Nat} {v : AV} {nw : List (Nat × Ob)} {rn : List Nat} {m : Nat} (ho : ops[k]? = some o) (h : OpG P N w0 U0 ops o (SS L M) ⟨some (d, v), nw, rn, [m]⟩) (hf : freshB L M m = true) (hr : RG P N w0 U0 ops (k + 1) (SS ((d, v) :: L) (nw ++ M)) R) : RG P N w0 U0 ops k (SS L M) R :=
  rg_step ho h (fun m' hm => by have : m' = m := by simpa using hm
                                subst this; exact fresh_ss hf) (by rw [ap_ss]; exact hr)
theorem rg_sto {nw : List (Nat × Ob)} {rn : List Nat} (ho : ops[k]? = some o) (h : OpG P N w0 U0 ops o (SS L M) ⟨none, nw, rn, []⟩) (hr : RG P N w0 U0 ops (k + 1) (SS L (nw ++ M)) R) : RG P N w0 U0 ops k (SS L M) R :=
  rg_step ho h (fun m hm => by cases hm) (by rw [ap_ss]; exact hr)
variable {σ0 : AS} {sk : List Sk}
theorem dr_put {d : Nat} {v : AV} {rn : List Nat} (ho : ops[k]? = some o) (h : OpG P N w0 U0 ops o (SS L M) ⟨some (d, v), [], rn, []⟩) (hr : DR P N w0 U0 ops σ0 (k + 1) (sk ++ [⟨some d, [], rn, [], v.names⟩]) (SS ((d, v) :: L) M) R) : DR P N w0 U0 ops σ0 k sk (SS L M) R :=
  dr_step ho h (by rw [ap_ss]; exact hr)
theorem dr_skip (ho : ops[k]? = some o) (h : OpG P N w0 U0 ops o (SS L M) ⟨none, [], [], []⟩) (hr : DR P N w0 U0 ops σ0 (k + 1) (sk ++ [⟨none, [], [], [], []⟩]) (SS L M) R) : DR P N w0 U0 ops σ0 k sk (SS L M) R :=
  dr_step ho h (by rw [ap_ss]; exact hr)
theorem dr_nam {d : Nat} {v : AV} {nw : List (Nat × Ob)} {rn : List Nat} {m : Nat} (ho : ops[k]? = some o) (h : OpG P N w0 U0 ops o (SS L M) ⟨some (d, v), nw, rn, [m]⟩) (hr : DR P N w0 U0 ops σ0 (k + 1) (sk ++ [⟨some d, nw.map (·.1), rn, [m], v.names⟩]) (SS ((d, v) :: L) (nw ++ M)) R) : DR P N w0 U0 ops σ0 k sk (SS L M) R :=
  dr_step ho h (by rw [ap_ss]; exact hr)
theorem dr_sto {nw : List (Nat × Ob)} {rn : List Nat} (ho : ops[k]? = some o) (h : OpG P N w0 U0 ops o (SS L M) ⟨none, nw, rn, []⟩) (hr : DR P N w0 U0 ops σ0 (k + 1) (sk ++ [⟨none, nw.map (·.1), rn, [], []⟩]) (SS L (nw ++ M)) R) : DR P N w0 U0 ops σ0 k sk (SS L M) R :=
  dr_step ho h (by rw [ap_ss]; exact hr)
theorem a_rseq {id : Nat} {y : Code} {R : Exit → AS → Prop} {σ : AS} (h : RG P N w0 U0 ops 0 σ (A P N w0 U0 y R)) : A P N w0 U0 (.seq (.region id ops false) y) R σ := a_seq (a_region h)
theorem a_dseq {id : Nat} {y : Code} {R : Exit → AS → Prop} (hm : P.follows .mixedOrders = true) (h : DR P N w0 U0 ops (SS L M) 0 [] (SS L M) (A P N w0 U0 y R)) : A P N w0 U0 (.seq (.region id ops true) y) R (SS L M) := a_seq (a_draw hm h)
theorem a_condK {c : Operand} {x y : Code} {R : Exit → AS → Prop} {σ : AS} {b : Bool} (hc : σ.ev c = .d (.fl (.bool b))) (hb : b = true) (h1 : A P N w0 U0 x R σ) : A P N w0 U0 (.cond c x y) R σ := a_cond hc (fun _ => h1) (fun h => by rw [hb] at h; cases h)
theorem a_condF {c : Operand} {x y : Code} {R : Exit → AS → Prop} {σ : AS} {b : Bool} (hc : σ.ev c = .d (.fl (.bool b))) (hb : b = false) (h1 : A P N w0 U0 y R σ) : A P N w0 U0 (.cond c x y) R σ := a_cond hc (fun h => by rw [hb] at h; cases h) (fun _ => h1)
theorem ctr {f : FuncId} {fn : Func} {c : Code} {args : List DV} {r : RV} {n : Nat} {rs : Array ResultVar} {L : List (Nat × AV)} (hf : P.funcs[f]? = some fn) (hb : fn.body = some c) (hn : fn.ntmps = n) (hr : fn.results = rs) (hl : Nat.ble args.length n = true) (hL : args0 args 0 = L)
    (h : ∀ w0 U0, A P n w0 U0 c (retR P rs r) (SS L [])) : Ctr P f args r := by
  subst hn
  subst hr
  subst hL
  exact ctr_intro hf hb hl h
end
end Go.Proofs.Ytobgdemhadlgnaa.Av

namespace Go.Proofs.Ytobgdemhadlgnaa.Av
open Go Go.RowKit
def ix {α : Type} [Inhabited α] (l : List α) (i : Nat) : α := l.getD i default
theorem ix_get {α : Type} [Inhabited α] {l : List α} {i : Nat} (h : i < l.length) : l[i]? = some (ix l i) := by
  unfold ix; simp [List.getD, List.getElem?_eq_getElem h]
theorem ix_mem {α : Type} [Inhabited α] {l : List α} {i : Nat} (h : i < l.length) : ix l i ∈ l := List.mem_of_getElem? (ix_get h)
theorem take_ix {α : Type} [Inhabited α] {l : List α} {i : Nat} (h : i < l.length) : l.take (i + 1) = l.take i ++ [ix l i] := by
  rw [List.take_succ_eq_append_getElem h]
  have := ix_get h
  rw [List.getElem?_eq_getElem h] at this
  injection this with this
  rw [this]
theorem drop_ix {α : Type} [Inhabited α] {l : List α} {i : Nat} (h : i < l.length) : l.drop i = ix l i :: l.drop (i + 1) := by
  rw [List.drop_eq_getElem_cons h]
  have := ix_get h
  rw [List.getElem?_eq_getElem h] at this
  injection this with this
  rw [this]
def rI (k : IntKind) (x : Int) : List DV := [.fl (.int k x)]
def rS (x : ByteArray) : List DV := [.fl (.string x)]
def rB (x : Bool) : List DV := [.fl (.bool x)]
def rL {α : Type} (z : Nat) (f : α → List DV) (x : List α) : List DV := [.sl z (x.map f)]
instance : Inhabited ByteArray := ⟨⟨#[]⟩⟩
theorem row_at {α : Type} [Inhabited α] {f : α → List DV} {l : List α} {k : Nat} (h : k < l.length) : (l.map f)[((k : Nat) : Int).toNat]? = some (f (ix l k)) := by
  rw [Int.toNat_natCast, List.getElem?_map, ix_get h]; rfl
theorem row_atI {α : Type} [Inhabited α] {f : α → List DV} {l : List α} {k : Int} (h0 : 0 ≤ k) (h : k < l.length) : (l.map f)[k.toNat]? = some (f (ix l k.toNat)) := by
  rw [List.getElem?_map, ix_get (by omega)]; rfl
theorem byte_at {s : ByteArray} {k : Nat} (h : k < s.size) : s[((k : Nat) : Int).toNat]? = some s[k] := by
  simp [h]
def bt (s : ByteArray) (i : Nat) : UInt8 := s.data.toList.getD i 0
theorem byte_ix {s : ByteArray} {k : Nat} (h : k < s.size) : s[((k : Nat) : Int).toNat]? = some (bt s k) := by
  have h' : k < s.data.size := by simpa using h
  rw [byte_at h]
  unfold bt
  simp [List.getD, Array.getElem?_eq_getElem h']
  rfl
theorem fot (b : Bool) : b = false ∨ b = true := by cases b <;> simp
/-! ### truths -/
theorem t_dec {p : Prop} [Decidable p] (h : decide p = true) : p := of_decide_eq_true h
theorem f_dec {p : Prop} [Decidable p] (h : decide p = false) : ¬ p := of_decide_eq_false h
theorem t_not {x : Bool} (h : (!x) = true) : x = false := by simpa using h
theorem f_not {x : Bool} (h : (!x) = false) : x = true := by simpa using h
theorem t_beq {a b : Int} (h : (a == b) = true) : a = b := by simpa using h
theorem f_beq {a b : Int} (h : (a == b) = false) : a ≠ b := by simpa using h
theorem t_bne {a b : Int} (h : (a != b) = true) : a ≠ b := by simpa using h
theorem f_bne {a b : Int} (h : (a != b) = false) : a = b := by simpa using h
theorem t_seq {s u : ByteArray} (h : sEq s u = true) : s = u := of_decide_eq_true h
theorem f_seq {s u : ByteArray} (h : sEq s u = false) : s ≠ u := of_decide_eq_false h
theorem t_ii {a b : Int} (h : a = b) : (a == b) = true := by simpa using h
theorem not_f {x : Bool} (h : x = true) : (!x) = false := by simp [h]
theorem not_t' {x : Bool} (h : x = false) : (!x) = true := by simp [h]
/-! ### numbers that are spelled otherwise -/
theorem ci {ρ : Nat → Nat} {k : IntKind} {a b : Int} (h : a = b) : AV.d (.fl (.int k a)) = renA ρ (AV.d (.fl (.int k b))) := by rw [h]; rfl
theorem cd {ρ : Nat → Nat} {a b : DV} (h : a = b) : AV.d a = renA ρ (AV.d b) := by rw [h]; rfl
section
variable {P : Program} {N : Nat} {w0 : World} {U0 : Nat → Nat} {o : Oper} {σ : AS}
theorem s_field_el {s : TypeId} {x : Operand} {f : Nat} (ho : o.op = .fieldAddr s x f) {fs : Array Field} (hu : P.underlying s = some (.struct fs)) {fd : Field} (hf : fs[f]? = some fd) {z : Value} {sz b : Nat} (hi : TI P fd.type z sz b) (hz : Nat.blt 0 sz = true)
    {cs : List DV} (hx : σ.ev x = .el cs) (hd : dOk o N = true) : OpS P N w0 U0 o σ ⟨o.dst.map fun d => (d, .el (cs.drop fd.offset)), [], [], []⟩ := by
  obtain ⟨i, g1, _, g3, _⟩ := hi
  have := Nat.le_of_ble_eq_true hz
  exact op_field_el ho hu hf g1 (by omega) hx hd
theorem s_field_pt {s : TypeId} {x : Operand} {f : Nat} (ho : o.op = .fieldAddr s x f) {fs : Array Field} (hu : P.underlying s = some (.struct fs)) {fd : Field} (hf : fs[f]? = some fd) {z : Value} {sz b : Nat} (hi : TI P fd.type z sz b) (hz : Nat.blt 0 sz = true)
    {m p : Nat} (hx : (σ.ev x).ptOf = some (m, p)) (hd : dOk o N = true) : OpS P N w0 U0 o σ ⟨o.dst.map fun d => (d, .pt m (p + fd.offset)), [], [], []⟩ := by
  obtain ⟨i, g1, _, g3, _⟩ := hi
  have := Nat.le_of_ble_eq_true hz
  exact op_field_pt ho hu hf g1 (by omega) hx hd
theorem s_index {t : TypeId} {x y : Operand} (ho : o.op = .indexAddr t x y) {e : TypeId} (hu : P.underlying t = some (.slice e)) {z : Value} {sz b : Nat} (hi : TI P e z sz b) {rows : List (List DV)} (hx : σ.ev x = .d (.sl sz rows))
    {k : IntKind} {n : Int} (hy : σ.ev y = .d (.fl (.int k n))) {r : List DV} (h0 : 0 ≤ n) (hr : rows[n.toNat]? = some r) (hd : dOk o N = true) : OpS P N w0 U0 o σ ⟨o.dst.map fun d => (d, .el r), [], [], []⟩ := by
  obtain ⟨i, g1, _, g3, _⟩ := hi
  subst g3
  exact op_index ho hu g1 hx hy h0 hr hd
theorem s_index_ow {t : TypeId} {x y : Operand} (ho : o.op = .indexAddr t x y) {e : TypeId} (hu : P.underlying t = some (.slice e)) {z : Value} {sz b : Nat} (hi : TI P e z sz b) {m : Nat} {e' : TypeId} {rows : List (List DV)} (hx : σ.ev x = .ow m) (hm : σ.n m = .ow e' sz rows)
    {k : IntKind} {n : Int} (hy : σ.ev y = .d (.fl (.int k n))) {r : List DV} (h0 : 0 ≤ n) (hr : rows[n.toNat]? = some r) (hd : dOk o N = true) : OpS P N w0 U0 o σ ⟨o.dst.map fun d => (d, .el r), [], [m], []⟩ := by
  obtain ⟨i, g1, _, g3, _⟩ := hi
  subst g3
  exact op_index_ow ho hu g1 hx hm hy h0 hr hd
theorem s_load_els {t : TypeId} {x : Operand} (ho : o.op = .load t x) {d : TypeDesc} (hu : P.underlying t = some d) (ha : aggD d = true) {z : Value} {sz b : Nat} (hi : TI P t z sz b) {cs : List DV} (hx : σ.ev x = .el cs) (hl : Nat.ble sz cs.length = true) (hd : dOk o N = true) : OpS P N w0 U0 o σ ⟨o.dst.map fun d => (d, .d (.ag (cs.take sz))), [], [], []⟩ := by
  obtain ⟨i, g1, _, g3, _⟩ := hi
  subst g3
  exact op_load_els ho hu ha g1 hx (Nat.le_of_ble_eq_true hl) hd
theorem s_load_pts {t : TypeId} {x : Operand} (ho : o.op = .load t x) {d : TypeDesc} (hu : P.underlying t = some d) (ha : aggD d = true) {z : Value} {sz b : Nat} (hi : TI P t z sz b) {m p : Nat} (hx : (σ.ev x).ptOf = some (m, p)) {ty : TypeId} {cs : List DV} (hm : σ.n m = .bx ty cs) (hl : Nat.ble (p + sz) cs.length = true) (hd : dOk o N = true) : OpS P N w0 U0 o σ ⟨o.dst.map fun d => (d, .d (.ag ((cs.drop p).take sz))), [], [m], []⟩ := by
  obtain ⟨i, g1, _, g3, _⟩ := hi
  subst g3
  exact op_load_pts ho hu ha g1 hx hm (Nat.le_of_ble_eq_true hl) hd
theorem s_alloc {ty : TypeId} (m : Nat) (ho : o.op = .alloc ty) {z : Value} {sz b : Nat} (hi : TI P ty z sz b) (h1 : (z.cells.all fun u => u.oneCell') = true) (hd : dOk o N = true) : OpS P N w0 U0 o σ ⟨o.dst.map fun d => (d, .pt m 0), [(m, .bx ty (zeroDV z))], [], [m]⟩ := by
  obtain ⟨i, g1, g2, _, _⟩ := hi
  exact op_alloc m ho g1 g2 h1 hd
theorem s_store {t : TypeId} {x y : Operand} (ho : o.op = .store t x y) (hdn : o.dst = none) {z : Value} {sz b : Nat} (hi : TI P t z sz b) {m p : Nat} (hx : (σ.ev x).ptOf = some (m, p)) {ty : TypeId} {cs : List DV} (hm : σ.n m = .bx ty cs) {v : DV} (hy : σ.ev y = .d v) (h1 : v.one = true)
    (hsz : Nat.beq (dvCells v).length sz = true) (hl : Nat.ble (p + sz) cs.length = true) : OpS P N w0 U0 o σ ⟨none, [(m, .bx ty (cs.take p ++ dvCells v ++ cs.drop (p + (dvCells v).length)))], [m], []⟩ := by
  obtain ⟨i, g1, _, g3, _⟩ := hi
  subst g3
  exact op_store ho hdn g1 hx hm hy h1 (Nat.eq_of_beq_eq_true hsz) (Nat.le_of_ble_eq_true hl)
theorem s_len {t e : TypeId} {x : Operand} (ho : o.op = .call { callee := .builtin .len, args := #[x], argTypes := #[t] }) (hu : P.underlying t = some (.slice e)) {z : Nat} {α : Type} {f : α → List DV} {l : List α} (hx : σ.ev x = .d (.sl z (l.map f))) (hd : dOk o N = true) : OpS P N w0 U0 o σ ⟨o.dst.map fun d => (d, .d (.fl (.int .i64 l.length))), [], [], []⟩ := by
  have := op_len (P := P) (N := N) (w0 := w0) (U0 := U0) ho hu hx hd
  rwa [List.length_map] at this
theorem s_len_ow {t e : TypeId} {x : Operand} (ho : o.op = .call { callee := .builtin .len, args := #[x], argTypes := #[t] }) (hu : P.underlying t = some (.slice e)) {m : Nat} {e' : TypeId} {z : Nat} {α : Type} {f : α → List DV} {l : List α} (hx : σ.ev x = .ow m) (hm : σ.n m = .ow e' z (l.map f)) (hd : dOk o N = true) : OpS P N w0 U0 o σ ⟨o.dst.map fun d => (d, .d (.fl (.int .i64 l.length))), [], [m], []⟩ := by
  have := op_len_ow (P := P) (N := N) (w0 := w0) (U0 := U0) ho hu hx hm hd
  rwa [List.length_map] at this
theorem s_append {t e : TypeId} {s x : Operand} (m : Nat) (ho : o.op = .call { callee := .builtin .append, args := #[s, x], argTypes := #[t, t] })
    {zv : Value} {sz b : Nat} (ht : P.underlying t = some (.slice e)) (hi : TI P e zv sz b) (hzs : Nat.beq zv.cells.size sz = true) (hz0 : Nat.blt 0 sz = true) {m0 : Nat} {α : Type} {f : α → List DV} {l l' : List α} {rn : List Nat} {av : AV}
    (hs : σ.ev s = .ow m0) (hm : σ.n m0 = .ow e sz (l.map f)) (hx : σ.ev x = av) (hxv : AvD σ av (.sl sz (l'.map f)) rn) (hbytes : (l.length + l'.length) * (b + 1) ≤ 140737488355328) (hd : dOk o N = true) :
    OpS P N w0 U0 o σ ⟨o.dst.map fun d => (d, .ow m), [(m, .ow e sz ((l ++ l').map f)), (m0, .no)], m0 :: rn, [m]⟩ := by
  obtain ⟨i, g1, g2, g3, g4⟩ := hi
  subst g3
  subst g4
  have h1 : (l.length + l'.length) * 1 ≤ (l.length + l'.length) * (i.bytes + 1) := Nat.mul_le_mul_left _ (by omega)
  have h2 : (l.length + l'.length) * i.bytes ≤ (l.length + l'.length) * (i.bytes + 1) := Nat.mul_le_mul_left _ (by omega)
  have := op_append (P := P) (N := N) (w0 := w0) (U0 := U0) m ho ht g1 g2 hzs hz0 hs hm (by rw [hx]; exact hxv) (by simp only [List.length_map]; omega) (by simp only [List.length_map]; omega) hd
  rwa [← List.map_append] at this
theorem s_append_nil {t e : TypeId} {s x : Operand} (m : Nat) (ho : o.op = .call { callee := .builtin .append, args := #[s, x], argTypes := #[t, t] })
    {zv : Value} {sz b : Nat} (ht : P.underlying t = some (.slice e)) (hi : TI P e zv sz b) (hzs : Nat.beq zv.cells.size sz = true) (hz0 : Nat.blt 0 sz = true) {α : Type} {f : α → List DV} {l' : List α} {rn : List Nat} {av : AV}
    (hs : σ.ev s = .d (.fl (.slice none 0 0))) (hx : σ.ev x = av) (hxv : AvD σ av (.sl sz (l'.map f)) rn) (hbytes : l'.length * (b + 1) ≤ 140737488355328) (hd : dOk o N = true) :
    OpS P N w0 U0 o σ ⟨o.dst.map fun d => (d, .ow m), [(m, .ow e sz (l'.map f))], rn, [m]⟩ := by
  obtain ⟨i, g1, g2, g3, g4⟩ := hi
  subst g3
  subst g4
  have h1 : l'.length * 1 ≤ l'.length * (i.bytes + 1) := Nat.mul_le_mul_left _ (by omega)
  have h2 : l'.length * i.bytes ≤ l'.length * (i.bytes + 1) := Nat.mul_le_mul_left _ (by omega)
  exact op_append_nil (P := P) (N := N) (w0 := w0) (U0 := U0) m ho ht g1 g2 hzs hz0 hs (by rw [hx]; exact hxv) (by simp only [List.length_map]; omega) (by simp only [List.length_map]; omega) hd
end
end Go.Proofs.Ytobgdemhadlgnaa.Av

namespace Go.Proofs.Ytobgdemhadlgnaa.Av
open Go Go.RowKit
section
variable {P : Program} {N : Nat} {w0 : World} {U0 : Nat → Nat}
theorem rg_imp {ops : Array Oper} {k : Nat} {σ τ : AS} {R : AS → Prop} (hi : Imp N w0 U0 σ τ) (h : RG P N w0 U0 ops k τ R) : RG P N w0 U0 ops k σ R := ⟨fun a w hs Q hQ => h.go a w (hi a w hs) Q hQ⟩
/-- the master rule of the names -/
theorem Fits.big {σ : AS} {a : Act} {w w' : World} {F F' : Fr} (h : Fits w0 U0 σ a w F) {tw : Option (Nat × AV)} {nw : List (Nat × Ob)} (hE : Ext w F.U w' F'.U) (hu : ∀ b, b < w0.heap.size → F'.U b = F.U b)
    (hold : ∀ k, nwGet nw k = none → F'.β k = F.β k ∧ F'.γ k = F.γ k ∧ ∀ b, F'.S k b ↔ F.S k b)
    (hmen : ∀ k, nwGet nw k ≠ none → (F'.β k = F.β k ∧ F'.γ k = F.γ k) ∨ fresh σ k)
    (hkept : ∀ k, (σ.n k).live = true → nwGet nw k = none → Kept w F w' F'.U k)
    (hob : ∀ k o, nwGet nw k = some o → Rob w0.heap.size w' F' k o)
    (hd1 : ∀ k o k' b, nwGet nw k = some o → o.live = true → nwGet nw k' = none → (σ.n k').live = true → F'.S k b → ¬ F.S k' b)
    (hd2 : ∀ k o k' o' b, nwGet nw k = some o → o.live = true → nwGet nw k' = some o' → o'.live = true → F'.S k b → F'.S k' b → k = k')
    {a' : Act} (hta : ∀ t, a'.tmps.getD t undef = (match tw with | some (d, _) => if d = t then a'.tmps.getD t undef else a.tmps.getD t undef | none => a.tmps.getD t undef)) (htv : ∀ d v, tw = some (d, v) → Rav w' F' v (a'.tmps.getD d undef)) (rn fr : List Nat) :
    Fits w0 U0 ((⟨tw, nw, rn, fr⟩ : Eff).ap σ) a' w' F' := by
  have hβγ : ∀ k, (F'.β k = F.β k ∧ F'.γ k = F.γ k) ∨ fresh σ k := fun k => by
    cases hk : nwGet nw k with
    | none => exact .inl ⟨(hold k hk).1, (hold k hk).2.1⟩
    | some o => exact hmen k (by rw [hk]; simp)
  have hrav : ∀ t (v : Value), Rav w F (σ.t t) v → Rav w' F' (σ.t t) v := by
    intro t v hv
    have hv' := hv.ext hE
    have hs : ∀ k, (σ.t t).says k = true → F'.β k = F.β k ∧ F'.γ k = F.γ k := fun k hk => (hβγ k).resolve_right (fun hf => by have := hf.2 t; rw [hk] at this; cases this)
    revert hv' hs
    cases σ.t t with
    | pt m o => intro hv' hs; obtain ⟨b, h1, h2⟩ := hv'; exact ⟨b, by rw [(hs m (by simp [AV.says])).1]; exact h1, h2⟩
    | pe m z i j => intro hv' hs; obtain ⟨b, h1, h2⟩ := hv'; exact ⟨b, by rw [(hs m (by simp [AV.says])).2]; exact h1, h2⟩
    | ow m => intro hv' hs; exact hv'.trans (hs m (by simp [AV.says])).2.symm
    | pv m x => intro hv' hs; obtain ⟨h5, b, h1, h2⟩ := hv'; exact ⟨h5, b, by rw [(hs m (by simp [AV.says])).1]; exact h1, h2⟩
    | pw m x => intro hv' hs; exact ⟨hv'.1, hv'.2.trans (hs m (by simp [AV.says])).2.symm⟩
    | wn m i z => intro hv' hs; show _ = winV (F'.γ m) i z; rw [(hs m (by simp [AV.says])).2]; exact hv'
    | cl f cs => intro hv' hs; exact Rav.clSwap (F := { F with U := F'.U }) rfl (fun k hk => (hs k hk).1) hv'
    | _ => intro hv' hs; exact hv'
  refine ⟨fun b hb => (hu b hb).trans (h.u b hb), fun t => ?_, fun k => ?_, fun k k' b h1 h2 h3 h4 => ?_⟩
  · rw [hta t]
    cases tw with
    | none => exact hrav t _ (h.t t)
    | some x =>
      obtain ⟨d, v⟩ := x
      simp only
      show Rav w' F' (bif Nat.beq d t then v else σ.t t) _
      by_cases hdt : d = t
      · subst hdt
        rw [Nat.beq_refl, if_pos rfl]
        exact htv d v rfl
      · rw [nbeq hdt, if_neg hdt]
        exact hrav t _ (h.t t)
  · show Rob _ w' F' k ((nwGet nw k).getD (σ.n k))
    cases hk : nwGet nw k with
    | some o => exact hob k o hk
    | none =>
      show Rob _ w' F' k (σ.n k)
      obtain ⟨g1, g2, g3⟩ := hold k hk
      cases hl : (σ.n k).live with
      | false =>
        cases hq : σ.n k with
        | no => trivial
        | _ => rw [hq] at hl; cases hl
      | true => exact Rob.same ((h.n k).ext hE (hkept k hl hk)) g1 g2 g3
  · have hn : ∀ j, (((⟨tw, nw, rn, fr⟩ : Eff).ap σ).n j) = (nwGet nw j).getD (σ.n j) := fun _ => rfl
    rw [hn] at h1 h2
    cases hk : nwGet nw k with
    | some o =>
      rw [hk] at h1
      cases hk' : nwGet nw k' with
      | some o' => rw [hk'] at h2; exact hd2 k o k' o' b hk h1 hk' h2 h3 h4
      | none => rw [hk'] at h2; exact absurd (((hold k' hk').2.2 b).1 h4) (hd1 k o k' b hk h1 hk' h2 h3)
    | none =>
      rw [hk] at h1
      cases hk' : nwGet nw k' with
      | some o' => rw [hk'] at h2; exact absurd (((hold k hk).2.2 b).1 h3) (hd1 k' o' k b hk' h2 hk h1 h4)
      | none => rw [hk'] at h2; exact h.i k k' b h1 h2 (((hold k hk).2.2 b).1 h3) (((hold k' hk').2.2 b).1 h4)
theorem hta_put {a : Act} {o : Oper} (hd : dOk o N = true) (hN : a.tmps.size = N) (av : AV) (v : Value) : (∀ t, (a.put o.dst v).tmps.getD t undef = (match o.dst.map (fun d => (d, av)) with | some (d, _) => if d = t then (a.put o.dst v).tmps.getD t undef else a.tmps.getD t undef | none => a.tmps.getD t undef)) ∧ ∀ d v', o.dst.map (fun d => (d, av)) = some (d, v') → v' = av ∧ (a.put o.dst v).tmps.getD d undef = v := by
  cases hdd : o.dst with
  | none => exact ⟨fun t => rfl, fun d v' h => by cases h⟩
  | some d =>
    have hlt : d < a.tmps.size := by
      unfold dOk at hd
      rw [hdd] at hd
      rw [hN]
      exact Nat.le_of_ble_eq_true hd
    refine ⟨fun t => ?_, fun d' v' h => ?_⟩
    · simp only [Option.map_some]
      by_cases hdt : d = t
      · rw [if_pos hdt]
      · rw [if_neg hdt, put_get hlt, if_neg hdt]
    · simp only [Option.map_some, Option.some.injEq, Prod.mk.injEq] at h
      obtain ⟨rfl, rfl⟩ := h
      exact ⟨rfl, by rw [put_get hlt, if_pos rfl]⟩
/-! ### function values -/
def FnOk (P : Program) (g : FuncId) : Prop := ∃ fn, P.funcs[g]? = some fn ∧ (fn.name == "runtime.NumGoroutine") = false ∧ fn.body.isNone = false
theorem op_callV {o : Oper} {σ : AS} {fo : Operand} {args : Array Operand} {ats : Array TypeId} (ho : o.op = .call { callee := .value fo, args := args, argTypes := ats }) {g : FuncId} {caps : List DV} (hfo : σ.ev fo = .d (.fn g caps)) (hg : FnOk P g)
    {ds : List DV} {rns : List Nat} {r : RV} (ha : ArgsS σ args.toList ds rns) (hc : Ctr P g (ds ++ caps) r) (hd : dOk o N = true) : OpS P N w0 U0 o σ ⟨o.dst.map fun d => (d, r.av), [], rns, []⟩ := by
  obtain ⟨fn, hf, hn, hb⟩ := hg
  intro σ' hok a w hs K Q hK
  obtain ⟨F, hF⟩ := hs.f
  have hfv : Rd w F.U (a.eval fo) (.fn g caps) := ev_get hok hF (x := fo) (by simp [ho, Op.operands, Call.operands]) hfo
  obtain ⟨vs, hv, hvs⟩ : ∃ vs : Array Value, a.eval fo = .func (.func g) #[] vs ∧ Rds w F.U vs.toList caps := by
    generalize a.eval fo = v at hfv
    cases hfv with
    | fn _ vs _ h hc => exact ⟨vs, rfl, by simpa using h, hc⟩
  have hR := (ha.get hF hok.n (fun x hx => ev_ok hok (by simp [ho, Op.operands, Call.operands]; exact .inr (by simpa using hx)))).append hvs
  have hcall := hc _ F.U w hR
  unfold Oper.wp
  have hex : (execOp a.eval o).run P w = .ok (.enter g (args.toList.map a.eval ++ vs.toList).toArray) w := by
    unfold execOp
    simp only [ho, resolve, hv, Deferred.ofValue, invoke, Sem.run_bind, Sem.run_pure, Result.andThen_ok]
    have e1 : (#[] ++ Array.map a.eval args ++ vs : Array Value) = (args.toList.map a.eval ++ vs.toList).toArray := by
      apply Array.ext'
      simp
    rw [e1]
    exact run_call hf hn hb _ w
  rw [hex, Oper.upon_enter]
  refine Calls.mono hcall ?_
  rintro e w' ⟨v, U', rfl, h1, h2, h3⟩
  have hfit := hF.put (U' := U') hs.b.size ⟨h1.block, h2⟩ hd hs.s (av := r.av) (v := v) (Rres.av (F := { F with U := U' }) h3) rns []
  exact hK _ _ ⟨by rw [put_defers]; exact hs.d, by rw [put_size]; exact hs.s, hs.b.trans (h1.mono hs.b.size), _, hfit⟩
inductive CapS (σ : AS) : List Operand → List DV → Prop
  | nil : CapS σ [] []
  | cons {x : Operand} {xs : List Operand} {d : DV} {ds : List DV} (hv : σ.ev x = .d d) (hs : CapS σ xs ds) : CapS σ (x :: xs) (d :: ds)
theorem op_mkfn {o : Oper} {σ : AS} {g : FuncId} {caps : Array Operand} (ho : o.op = .makeFunc (.func g) #[] caps) {ds : List DV} (hc : CapS σ caps.toList ds) (hd : dOk o N = true) : OpS P N w0 U0 o σ ⟨o.dst.map fun d => (d, .d (.fn g ds)), [], [], []⟩ :=
  opS_still (P := P) (av := .d (.fn g ds)) hd fun σ' hok a w F hF => by
    have key : ∀ xs ds, CapS σ xs ds → (∀ x ∈ xs, σ'.ev x = σ.ev x) → Rds w F.U (xs.map a.eval) ds := by
      intro xs ds h
      induction h with
      | nil => intro _; exact Rds.nil
      | @cons x xs d ds hv hs ih =>
        intro hev
        refine Rds.cons ?_ (ih (fun x hx => hev x (by simp [hx])))
        have := hF.ev x
        rw [hev x (by simp), hv] at this
        exact this
    have h1 := key _ _ hc (fun x hx => ev_ok hok (by simp [ho, Op.operands]; simpa using hx))
    refine ⟨.func (.func g) #[] (caps.map a.eval), by simp [execOp, ho, Instr.makeFunc], .fn g _ ds (by have := h1.1; simpa using this) (by have := h1.2; simpa using this)⟩
/-- a box that nobody writes any more -/
theorem imp_freeze {L : List (Nat × AV)} {M : List (Nat × Ob)} (t m : Nat) {ty : TypeId} {cs : List DV} (ht : lk L t = .pt m 0) (hm : ln M m = .bx ty cs) : Imp N w0 U0 (SS L M) (SS ((t, .d (.el cs)) :: L) ((m, .no) :: M)) := by
  intro a w hs
  obtain ⟨F, hF⟩ := hs.f
  obtain ⟨b, hb, hv⟩ : Rav w F (.pt m 0) (a.tmps.getD t undef) := by have := hF.t t; rw [show (SS L M).t t = _ from ht] at this; exact this
  have hob := hF.n m
  rw [show (SS L M).n m = _ from hm] at hob
  obtain ⟨b', vs, k1, k2, k3, k4, k5, k6⟩ := hob
  rw [hb] at k1
  injection k1 with k1
  subst k1
  have hlt : b < w.heap.size := (Array.getElem?_eq_some_iff.1 k4).1
  have hlive : ((SS L M).n m).live = true := by rw [show (SS L M).n m = _ from hm]; rfl
  have hE : Ext w F.U w (fun x => if x = b then cs.length else F.U x) := ⟨fun b' o' u hc ho' => ⟨hc, by
    by_cases hbb : b' = b
    · subst hbb; omega
    · show o' < if b' = b then _ else _
      rw [if_neg hbb]; exact ho'⟩, fun r es c hr hu => ⟨rfl, by
    show (if r = b then _ else _) = _
    rw [if_neg (fun e' => by subst e'; omega)]⟩⟩
  have := hF.big (F' := ⟨F.β, F.γ, fun x => if x = b then cs.length else F.U x, fun k x => k ≠ m ∧ F.S k x⟩) (tw := some (t, .d (.el cs))) (nw := [(m, .no)]) hE
    (fun x hx => by simp only; rw [if_neg (by omega)])
    (fun k hk => ⟨rfl, rfl, fun x => ⟨fun h => h.2, fun h => ⟨fun e => by subst e; simp [nwGet] at hk, h⟩⟩⟩)
    (fun k hk => .inl ⟨rfl, rfl⟩)
    (fun k hl hk x hx hxl => ⟨rfl, by
      simp only
      rw [if_neg (fun e => by
        subst e
        have := hF.i k m x hl hlive hx ((k6 x).2 rfl)
        subst this
        simp [nwGet] at hk)]⟩)
    (fun k o hk => by
      unfold nwGet at hk
      cases hb : Nat.beq m k with
      | true => rw [hb] at hk; simp at hk; subst hk; trivial
      | false => rw [hb] at hk; simp [nwGet] at hk)
    (fun k o k' x hk hl => by
      unfold nwGet at hk
      cases hb : Nat.beq m k with
      | true => rw [hb] at hk; simp at hk; subst hk; cases hl
      | false => rw [hb] at hk; simp [nwGet] at hk)
    (fun k o k' o' x hk hl => by
      unfold nwGet at hk
      cases hb : Nat.beq m k with
      | true => rw [hb] at hk; simp at hk; subst hk; cases hl
      | false => rw [hb] at hk; simp [nwGet] at hk)
    (a' := a) (fun t' => by simp only; split <;> rfl) (fun d v h => by
      simp only [Option.some.injEq, Prod.mk.injEq] at h
      obtain ⟨rfl, rfl⟩ := h
      rw [hv]
      refine elM (U := fun x => if x = b then cs.length else F.U x) (fun j x hx => ?_)
      have hjl : j < cs.length := (List.getElem?_eq_some_iff.1 hx).1
      have hl := k5.1.1
      obtain ⟨u, hu⟩ : ∃ u, vs.toList[j]? = some u := ⟨_, List.getElem?_eq_getElem (by omega)⟩
      refine ⟨u, ?_, ?_, k5.2 u (List.mem_of_getElem? hu), (k5.1.2 j u x hu hx).ext hE⟩
      · rw [Nat.zero_add, cell_of_row w b j vs ty (0, 0) k4]; simpa using hu
      · simp only [if_true, Nat.zero_add]; exact hjl) [] []
  rw [ap_ss] at this
  exact ⟨hs.d, hs.s, hs.b, _, this⟩
/-! ### a slice held against nil -/
theorem rg_isnil {ops : Array Oper} {k : Nat} {o : Oper} {L : List (Nat × AV)} {M : List (Nat × Ob)} {R : AS → Prop} (ho : ops[k]? = some o) (hg : o.guard = none) {t t' : TypeId} {x : Operand} (hop : o.op = .binOp .eql t x (.const (.slice none 0 0)) t') {e : TypeId} (hu : P.underlying t = some (.slice e)) {d : Nat} (hd : o.dst = some d) (hdN : dOk o N = true)
    {z : Nat} {rows : List (List DV)} (hx : (SS L M).ev x = .d (.sl z rows)) (h : ∀ b : Bool, (b = true → rows = []) → RG P N w0 U0 ops (k + 1) (SS ((d, .d (.fl (.bool b))) :: L) M) R) : RG P N w0 U0 ops k (SS L M) R := by
  refine ⟨fun a w hs Q hQ => ?_⟩
  obtain ⟨F, hF⟩ := hs.f
  have hv : Rd w F.U (a.eval x) (.sl z rows) := by have := hF.ev x; rw [hx] at this; exact this
  obtain ⟨A, n, c, hav, hnil⟩ : ∃ A n c, a.eval x = .slice A n c ∧ (A.isNone = true → rows = []) := by
    generalize a.eval x = v at hv
    cases hv with
    | sn A c z => exact ⟨A, 0, c, rfl, fun _ => rfl⟩
    | sl b off n c z rows u => exact ⟨_, n, c, rfl, fun h => by cases h⟩
  have hop2 : OpS P N w0 U0 o (SS L M) ⟨o.dst.map fun d => (d, .d (.fl (.bool A.isNone))), [], [], []⟩ → RG P N w0 U0 ops k (SS L M) R := fun hS => by
    rw [hd] at hS
    exact rg_put ho (og hg hS) (h A.isNone hnil)
  -- the run itself, at this world
  have hlt : k < ops.size := (Array.getElem?_eq_some_iff.1 ho).1
  have e1 : ((List.range (ops.size - k)).map (· + k)) = k :: ((List.range (ops.size - (k + 1))).map (· + (k + 1))) := by
    rw [show ops.size - k = (ops.size - (k + 1)) + 1 by omega, List.range_succ_eq_map]
    simp only [List.map_cons, Nat.zero_add, List.map_map, List.cons.injEq, true_and]
    apply List.map_congr_left
    intro y _
    show y + 1 + k = y + (k + 1)
    omega
  rw [e1, wpOps_cons]
  unfold wpOp
  rw [ho]
  simp only
  rw [if_pos (by simp [Region.wanted, hg])]
  left
  have hrun : (execOp a.eval o).run P w = .ok (.value (.bool A.isNone)) w := by
    have hq : (Op.equal t (.slice A n c) (.slice none 0 0)).run P w = .ok A.isNone w := by
      show (Op.equalIn (9999 + 1) t (.slice A n c) (.slice none 0 0)).run P w = _
      unfold Op.equalIn
      rw [Sem.run_bind, run_underlying hu]
      cases A <;> rfl
    have hc : a.eval (.const (.slice none 0 0)) = .slice none 0 0 := rfl
    unfold execOp
    simp only [hop, hav, hc, eqGuard, binOp, Sem.run_bind]
    simp [hq]
  unfold Oper.wp
  rw [hrun]
  have hfit := hF.put hs.b.size (Up.mk (fun _ _ => rfl) (fun _ _ => rfl) : Up w F.U w F.U) hdN hs.s (av := .d (.fl (.bool A.isNone))) (v := .bool A.isNone) (Rd.fl _) [] []
  have hst : St N w0 U0 ((⟨o.dst.map fun d => (d, .d (.fl (.bool A.isNone))), [], [], []⟩ : Eff).ap (SS L M)) (a.put o.dst (.bool A.isNone)) w := ⟨by rw [put_defers]; exact hs.d, by rw [put_size]; exact hs.s, hs.b, _, hfit⟩
  rw [ap_ss, hd] at hst
  exact (h A.isNone hnil).go _ _ (by rw [hd]; exact hst) Q hQ
end
end Go.Proofs.Ytobgdemhadlgnaa.Av

namespace Go.Proofs.Ytobgdemhadlgnaa.Av
open Go Go.RowKit
section
variable {P : Program} {N : Nat} {w0 : World} {U0 : Nat → Nat}
theorem flat_get {α : Type} {z : Nat} : ∀ {rows : List (List α)}, (∀ r ∈ rows, r.length = z) → ∀ {i j : Nat} {r : List α} {x : α}, rows[i]? = some r → r[j]? = some x → rows.flatten[i * z + j]? = some x ∧ i * z + j < rows.length * z := by
  intro rows
  induction rows with
  | nil => intro _ i j r x h; simp at h
  | cons r0 rows ih =>
    intro hz i j r x hr hx
    have h0 := hz r0 (by simp)
    have hj : j < r.length := (List.getElem?_eq_some_iff.1 hx).1
    have hrz := hz r (List.mem_of_getElem? hr)
    cases i with
    | zero =>
      simp at hr
      subst hr
      have : rows.length * z + z = (rows.length + 1) * z := by rw [Nat.succ_mul]
      refine ⟨by simp only [List.flatten_cons]; rw [Nat.zero_mul, Nat.zero_add, List.getElem?_append_left hj]; exact hx, by simp only [List.length_cons]; rw [← this]; omega⟩
    | succ i =>
      obtain ⟨h1, h2⟩ := ih (fun r hr => hz r (by simp [hr])) (i := i) (by simpa using hr) hx
      have e1 : (i + 1) * z = i * z + z := Nat.succ_mul i z
      have e2 : (rows.length + 1) * z = rows.length * z + z := Nat.succ_mul _ z
      refine ⟨?_, by simp only [List.length_cons]; omega⟩
      simp only [List.flatten_cons]
      rw [List.getElem?_append_right (by omega)]
      rw [show (i + 1) * z + j - r0.length = i * z + j by omega]
      exact h1
theorem flat_len {α : Type} {z : Nat} : ∀ {rows : List (List α)}, (∀ r ∈ rows, r.length = z) → rows.flatten.length = rows.length * z := by
  intro rows
  induction rows with
  | nil => intro _; simp
  | cons r rows ih =>
    intro hz
    simp only [List.flatten_cons, List.length_append, List.length_cons, Nat.succ_mul]
    rw [ih (fun r hr => hz r (by simp [hr])), hz r (by simp)]
    omega
/-- a splice in one row is a splice in the whole -/
theorem flat_splice {α : Type} {z : Nat} : ∀ {rows : List (List α)}, (∀ r ∈ rows, r.length = z) → ∀ {i j : Nat} {r : List α} (ds : List α), rows[i]? = some r → j + ds.length ≤ z →
    (rows.set i (r.take j ++ ds ++ r.drop (j + ds.length))).flatten = rows.flatten.take (i * z + j) ++ ds ++ rows.flatten.drop (i * z + j + ds.length) := by
  intro rows
  induction rows with
  | nil => intro _ i j r ds h; simp at h
  | cons r0 rows ih =>
    intro hz i j r ds hr hj
    have h0 := hz r0 (by simp)
    cases i with
    | zero =>
      simp at hr
      subst hr
      simp only [List.set_cons_zero, List.flatten_cons, Nat.zero_mul, Nat.zero_add]
      rw [List.take_append_of_le_length (by omega), List.drop_append_of_le_length (by omega)]
      simp
    | succ i =>
      have e1 : (i + 1) * z = i * z + z := Nat.succ_mul i z
      simp only [List.set_cons_succ, List.flatten_cons]
      rw [ih (fun r hr => hz r (by simp [hr])) ds (by simpa using hr) hj]
      rw [show (i + 1) * z + j = r0.length + (i * z + j) by omega, show r0.length + (i * z + j) + ds.length = r0.length + (i * z + j + ds.length) by omega, List.take_length_add_append, List.drop_length_add_append]
      simp
/-- cells that own nothing -/
theorem Tcs.ofRc {w : World} {U : Nat → Nat} {B : Nat} {us : List Value} {cs : List DV} (h : Rc w U us cs) : Tcs w U B us (cs.map .dv) (fun _ _ => False) :=
  ⟨by rw [List.length_map]; exact h.1.1, fun k u c h1 h2 => by
    rw [List.getElem?_map] at h2
    obtain ⟨x, hx, rfl⟩ := Option.map_eq_some_iff.1 h2
    exact ⟨h.1.2 k u x h1 hx, fun _ => id⟩, h.2, fun _ _ _ h => h.elim, fun _ _ h => h.elim⟩
theorem Tcs.splice {w : World} {U : Nat → Nat} {B : Nat} {us vs : List Value} {cs ds : List OC} {T T2 : Nat → Nat → Prop} (h : Tcs w U B us cs T) (k : Tcs w U B vs ds T2) (p : Nat) (hp : p + vs.length ≤ us.length) (hdis : ∀ i j b, T i b → T2 j b → False) :
    Tcs w U B (us.take p ++ vs ++ us.drop (p + vs.length)) (cs.take p ++ ds ++ cs.drop (p + ds.length)) (fun j b => if j < p then T j b else if j < p + vs.length then T2 (j - p) b else T j b) := by
  have hl := h.l
  have kl := k.l
  have hget : ∀ j, (us.take p ++ vs ++ us.drop (p + vs.length))[j]? = if j < p then us[j]? else if j < p + vs.length then vs[j - p]? else us[j]? := by
    intro j
    by_cases h1 : j < p
    · rw [if_pos h1, List.append_assoc, List.getElem?_append_left (by simp; omega), List.getElem?_take_of_lt h1]
    · rw [if_neg h1]
      by_cases h2 : j < p + vs.length
      · rw [if_pos h2, List.getElem?_append_left (by simp; omega), List.getElem?_append_right (by simp; omega)]
        congr 1
        simp
        omega
      · rw [if_neg h2, List.getElem?_append_right (by simp; omega), List.getElem?_drop]
        congr 1
        simp
        omega
  have hget2 : ∀ j, (cs.take p ++ ds ++ cs.drop (p + ds.length))[j]? = if j < p then cs[j]? else if j < p + vs.length then ds[j - p]? else cs[j]? := by
    intro j
    by_cases h1 : j < p
    · rw [if_pos h1, List.append_assoc, List.getElem?_append_left (by simp; omega), List.getElem?_take_of_lt h1]
    · rw [if_neg h1]
      by_cases h2 : j < p + vs.length
      · rw [if_pos h2, List.getElem?_append_left (by simp; omega), List.getElem?_append_right (by simp; omega)]
        congr 1
        simp
        omega
      · rw [if_neg h2, List.getElem?_append_right (by simp; omega), List.getElem?_drop]
        congr 1
        simp
        omega
  refine ⟨by simp; omega, fun j u c h1 h2 => ?_, fun u hu => ?_, fun j j' b h1 h2 => ?_, fun j b h1 => ?_⟩
  · rw [hget] at h1
    rw [hget2] at h2
    by_cases g1 : j < p
    · simp only [g1, if_true] at h1 h2 ⊢; exact h.c j u c h1 h2
    · by_cases g2 : j < p + vs.length
      · simp only [g1, g2, if_true, if_false] at h1 h2 ⊢; exact k.c _ u c h1 h2
      · simp only [g1, g2, if_false] at h1 h2 ⊢; exact h.c j u c h1 h2
  · rcases List.mem_append.1 hu with hu | hu
    · rcases List.mem_append.1 hu with hu | hu
      · exact h.o u (List.mem_of_mem_take hu)
      · exact k.o u hu
    · exact h.o u (List.mem_of_mem_drop hu)
  · skip
    by_cases g1 : j < p
    · by_cases g1' : j' < p
      · rw [if_pos g1] at h1; rw [if_pos g1'] at h2; exact h.d j j' b h1 h2
      · rw [if_pos g1] at h1; rw [if_neg g1'] at h2
        by_cases g2' : j' < p + vs.length
        · rw [if_pos g2'] at h2; exact (hdis _ _ _ h1 h2).elim
        · rw [if_neg g2'] at h2; exact h.d j j' b h1 h2
    · rw [if_neg g1] at h1
      by_cases g2 : j < p + vs.length
      · rw [if_pos g2] at h1
        by_cases g1' : j' < p
        · rw [if_pos g1'] at h2; exact (hdis _ _ _ h2 h1).elim
        · rw [if_neg g1'] at h2
          by_cases g2' : j' < p + vs.length
          · rw [if_pos g2'] at h2
            have := k.d _ _ b h1 h2
            omega
          · rw [if_neg g2'] at h2; exact (hdis _ _ _ h2 h1).elim
      · rw [if_neg g2] at h1
        by_cases g1' : j' < p
        · rw [if_pos g1'] at h2; exact h.d j j' b h1 h2
        · rw [if_neg g1'] at h2
          by_cases g2' : j' < p + vs.length
          · rw [if_pos g2'] at h2; exact (hdis _ _ _ h1 h2).elim
          · rw [if_neg g2'] at h2; exact h.d j j' b h1 h2
  · skip
    have hlen : (us.take p ++ vs ++ us.drop (p + vs.length)).length = us.length := by simp; omega
    rw [hlen]
    by_cases g1 : j < p
    · omega
    · rw [if_neg g1] at h1
      by_cases g2 : j < p + vs.length
      · omega
      · rw [if_neg g2] at h1; exact h.b j b h1
theorem Tcs.append {w : World} {U : Nat → Nat} {B : Nat} {us vs : List Value} {cs ds : List OC} {T T2 : Nat → Nat → Prop} (h : Tcs w U B us cs T) (k : Tcs w U B vs ds T2) (hdis : ∀ i j b, T i b → T2 j b → False) :
    Tcs w U B (us ++ vs) (cs ++ ds) (fun j b => if j < us.length then T j b else T2 (j - us.length) b) := by
  have hl := h.l
  refine ⟨by simp [h.l, k.l], fun j u c h1 h2 => ?_, fun u hu => (List.mem_append.1 hu).elim (h.o u) (k.o u), fun j j' b h1 h2 => ?_, fun j b h1 => ?_⟩
  · by_cases g1 : j < us.length
    · rw [List.getElem?_append_left g1] at h1
      rw [List.getElem?_append_left (by omega)] at h2
      simp only [g1, if_true]
      exact h.c j u c h1 h2
    · rw [List.getElem?_append_right (by omega)] at h1
      rw [List.getElem?_append_right (by omega), ← hl] at h2
      simp only [g1, if_false]
      exact k.c _ u c h1 h2
  · skip
    by_cases g1 : j < us.length
    · rw [if_pos g1] at h1
      by_cases g2 : j' < us.length
      · rw [if_pos g2] at h2; exact h.d j j' b h1 h2
      · rw [if_neg g2] at h2; exact (hdis _ _ _ h1 h2).elim
    · rw [if_neg g1] at h1
      by_cases g2 : j' < us.length
      · rw [if_pos g2] at h2; exact (hdis _ _ _ h2 h1).elim
      · rw [if_neg g2] at h2
        have := k.d _ _ b h1 h2
        omega
  · skip
    by_cases g1 : j < us.length
    · simp; omega
    · rw [if_neg g1] at h1
      have := k.b _ b h1
      simp; omega
/-- a source: a value and what it owns -/
inductive SrcS (σ : AS) : AV → List OC → Option Nat → Prop
  | d {x : DV} (h1 : x.one = true) : SrcS σ (.d x) ((dvCells x).map .dv) none
  | cv {x y : DV} (h : Cv x y) (h1 : y.one = true) : SrcS σ (.d x) ((dvCells y).map .dv) none
  | tr {q : Nat} {e : TypeId} {z : Nat} {rows : List (List DV)} (h : σ.n q = .tr e z (rows.map (·.map .dv))) : SrcS σ (.ow q) [.ow e z rows] (some q)
  | sv {q : Nat} {cs : List OC} (h : σ.n q = .sv cs) : SrcS σ (.ow q) cs (some q)
theorem flat_map_dv (rows : List (List DV)) : (rows.map (·.map OC.dv)).flatten = rows.flatten.map OC.dv := by
  induction rows with
  | nil => rfl
  | cons r rows ih => simp only [List.map_cons, List.flatten_cons, List.map_append, ih]
theorem Tcs.noDv {w : World} {U : Nat → Nat} {B : Nat} {us : List Value} {cs : List DV} {T : Nat → Nat → Prop} (h : Tcs w U B us (cs.map .dv) T) : Rc w U us cs ∧ ∀ k b, ¬ T k b := by
  have hl := h.l
  rw [List.length_map] at hl
  refine ⟨⟨⟨hl, fun j u x h1 h2 => (h.c j u (.dv x) h1 (by rw [List.getElem?_map, h2]; rfl)).1⟩, h.o⟩, fun k b hb => ?_⟩
  have hk := h.b k b hb
  have := h.c k _ (.dv (cs[k]'(by omega))) (List.getElem?_eq_getElem hk) (by rw [List.getElem?_map, List.getElem?_eq_getElem (by omega)]; rfl)
  exact this.2 b hb
theorem SrcS.get {σ σ' : AS} {a : Act} {w : World} {F : Fr} (hF : Fits w0 U0 σ' a w F) {av : AV} {ds : List OC} {kill : Option Nat} (h : SrcS σ av ds kill) (hrn : ∀ q, kill = some q → σ'.n q = σ.n q) {v : Value} (hv : Rav w F av v) :
    ∃ T, Tcs w F.U w0.heap.size v.cells.toList ds T ∧ (∀ k b, T k b → ∃ q, kill = some q ∧ (σ'.n q).live = true ∧ F.S q b) := by
  cases h with
  | d h1 => exact ⟨_, Tcs.ofRc (cells_of hv h1), fun _ _ h => h.elim⟩
  | cv h h1 => exact ⟨_, Tcs.ofRc (cells_of (h w F.U v hv) h1), fun _ _ h => h.elim⟩
  | @tr q e z rows h =>
    have hn := hrn q rfl
    have := hF.n q
    rw [hn, h] at this
    obtain ⟨xs, T, g1, g2, g3, g4, g5⟩ := this
    rw [flat_map_dv] at g2
    obtain ⟨k1, k2⟩ := g2.noDv
    have hv' : v = F.γ q := hv
    rw [List.length_map] at g1
    have hrz : ∀ r ∈ rows, r.length = z := fun r hr => by have := g3 (r.map OC.dv) (List.mem_map.2 ⟨r, hr, rfl⟩); simpa using this
    have hcs : v.cells.toList = [v] := by
      rw [hv']
      rcases g1.2 with ⟨h0, _⟩ | ⟨g, cap, cur, h0, _⟩ <;> rw [h0] <;> rfl
    refine ⟨fun k b => k = 0 ∧ (F.γ q).ownBlock = some b, ?_, fun k b hb => ⟨q, rfl, by rw [hn, h]; rfl, (g5 b).2 (.inl hb.2)⟩⟩
    rw [hcs]
    refine ⟨rfl, fun k u c h1 h2 => ?_, fun u hu => ?_, fun k k' b h1 h2 => by rw [h1.1, h2.1], fun k b h1 => by simp [h1.1]⟩
    · cases k with
      | zero =>
        simp at h1 h2
        subst h1 h2
        rw [hv']
        exact ⟨xs, g1, k1, hrz, fun b => by simp, fun b hb => (g4 b hb).1⟩
      | succ k => simp at h1
    · simp at hu
      subst hu
      rw [hv']
      rcases g1.2 with ⟨h0, _⟩ | ⟨g, cap, cur, h0, _⟩ <;> rw [h0] <;> rfl
  | @sv q cs h =>
    have hn := hrn q rfl
    have := hF.n q
    rw [hn, h] at this
    obtain ⟨vs, T, g1, g2, g3⟩ := this
    have hv' : v = F.γ q := hv
    refine ⟨T, by rw [hv', g1]; exact g2, fun k b hb => ⟨q, rfl, by rw [hn, h]; rfl, (g3 b).2 ⟨k, hb⟩⟩⟩
/-! ### addresses and loads in an own row -/
theorem tr_block {σ : AS} {a : Act} {w : World} {F : Fr} (hF : Fits w0 U0 σ a w F) {m : Nat} {e : TypeId} {z : Nat} {rows : List (List OC)} (h : σ.n m = .tr e z rows) (hpos : 0 < rows.length) :
    ∃ g cap cur xs T, F.γ m = .slice (some ⟨g, 0, none⟩) rows.length cap ∧ w0.heap.size ≤ g ∧ w.heap[g]? = some (.cells cur e (0, 0)) ∧ rows.length ≤ cap ∧ cur.size = cap * z ∧ cur.toList.take (rows.length * z) = xs ∧ w.ownsRow w0.heap.size e z (F.γ m) rows.length xs ∧ Tcs w F.U w0.heap.size xs rows.flatten T ∧ (∀ r ∈ rows, r.length = z) ∧ F.U g = 0 ∧ (∀ k, ¬ T k g) ∧ ∀ b, F.S m b ↔ (b = g ∨ ∃ k, T k b) := by
  have := hF.n m
  rw [h] at this
  obtain ⟨xs, T, g1, g2, g3, g4, g5⟩ := this
  rcases g1.2 with ⟨_, h0⟩ | ⟨g, cap, cur, h1, h2, h3, h4, h5, h6, h7⟩
  · omega
  · refine ⟨g, cap, cur, xs, T, h1, h2, h3, h4, h6, h7, g1, g2, g3, (g4 g (by rw [h1]; rfl)).1, (g4 g (by rw [h1]; rfl)).2, fun b => ?_⟩
    rw [g5 b, h1]
    constructor
    · rintro (h | h)
      · exact .inl (by simpa [Value.ownBlock] using h.symm)
      · exact .inr h
    · rintro (h | h)
      · exact .inl (by rw [h]; rfl)
      · exact .inr h
theorem op_index_tr {o : Oper} {σ : AS} {t : TypeId} {x y : Operand} (ho : o.op = .indexAddr t x y) {e : TypeId} (hu : P.underlying t = some (.slice e)) {zv : Value} {sz b : Nat} (hi : TI P e zv sz b) {m : Nat} {e' : TypeId} {rows : List (List OC)} (hx : σ.ev x = .ow m) (hm : σ.n m = .tr e' sz rows)
    {k : IntKind} {n : Nat} (hy : σ.ev y = .d (.fl (.int k n))) (hn : n < rows.length) (hd : dOk o N = true) : OpS P N w0 U0 o σ ⟨o.dst.map fun d => (d, .pe m sz n 0), [], [m], []⟩ :=
  opS_still (P := P) (av := .pe m sz n 0) hd fun σ' hok a w F hF => by
    obtain ⟨i, g1, _, g3, _⟩ := hi
    subst g3
    have hm' : σ'.n m = .tr e' i.size rows := by rw [hok.n m (by simp)]; exact hm
    obtain ⟨g, cap, cur, xs, T, h1, _⟩ := tr_block hF hm' (by omega)
    have hv : a.eval x = F.γ m := ev_get hok hF (x := x) (by simp [ho, Op.operands]) hx
    have h2 := Av.flat_val (ev_get hok hF (x := y) (by simp [ho, Op.operands]) hy)
    refine ⟨.pointer (some ⟨g, n * i.size, none⟩), ?_, g, by rw [h1]; rfl, by simp⟩
    rw [h1] at hv
    simp [execOp, ho, hv, h2, Instr.indexAt, run_underlying hu, asIntOf, sizeOf, typeInfo, g1, hn, add_plain']
theorem op_field_pe {o : Oper} {σ : AS} {s : TypeId} {x : Operand} {f : Nat} (ho : o.op = .fieldAddr s x f) {fs : Array Field} (hu : P.underlying s = some (.struct fs)) {fd : Field} (hf : fs[f]? = some fd) {zv : Value} {sz b : Nat} (hi : TI P fd.type zv sz b) (hz : Nat.blt 0 sz = true)
    {m z i j : Nat} (hx : σ.ev x = .pe m z i j) (hd : dOk o N = true) : OpS P N w0 U0 o σ ⟨o.dst.map fun d => (d, .pe m z i (j + fd.offset)), [], [], []⟩ :=
  opS_still (P := P) (av := .pe m z i (j + fd.offset)) hd fun σ' hok a w F hF => by
    obtain ⟨ti, g1, _, g3, _⟩ := hi
    have hz' := Nat.le_of_ble_eq_true hz
    obtain ⟨g, h1, h2⟩ := ev_get hok hF (x := x) (by simp [ho, Op.operands]) hx
    refine ⟨.pointer (some ⟨g, i * z + (j + fd.offset), none⟩), ?_, g, h1, rfl⟩
    have hne : ti.size ≠ 0 := by omega
    simp [execOp, ho, h2, Instr.fieldAt, run_underlying hu, hf, Instr.sureAddr, fieldPlace, sizeOf, typeInfo, g1, hne, add_plain', Nat.add_assoc]
end
end Go.Proofs.Ytobgdemhadlgnaa.Av

namespace Go.Proofs.Ytobgdemhadlgnaa.Av
open Go Go.RowKit
section
variable {P : Program} {N : Nat} {w0 : World} {U0 : Nat → Nat}
theorem take_get {α : Type} {cur xs : List α} {n : Nat} (h : cur.take n = xs) {k : Nat} (hk : k < n) : cur[k]? = xs[k]? := by rw [← h, List.getElem?_take_of_lt hk]
theorem op_load_pe {o : Oper} {σ : AS} {t : TypeId} {x : Operand} (ho : o.op = .load t x) {d : TypeDesc} (hu : P.underlying t = some d) (ha : aggD d = false) {m z i j : Nat} (hx : σ.ev x = .pe m z i j) {e : TypeId} {rows : List (List OC)} (hm : σ.n m = .tr e z rows) {r : List OC} (hr : rows[i]? = some r) {v : DV} (hv : r[j]? = some (.dv v)) (hd : dOk o N = true) : OpS P N w0 U0 o σ ⟨o.dst.map fun d => (d, .d v), [], [m], []⟩ :=
  opS_still (P := P) (av := .d v) hd fun σ' hok a w F hF => by
    obtain ⟨g, h1, h2⟩ := ev_get hok hF (x := x) (by simp [ho, Op.operands]) hx
    have hm' : σ'.n m = .tr e z rows := by rw [hok.n m (by simp)]; exact hm
    have hlt := (List.getElem?_eq_some_iff.1 hr).1
    obtain ⟨g', cap, cur, xs, T, k1, _, k3, _, _, k6, k7, k8, k9, _, _, _⟩ := tr_block hF hm' (by omega)
    rw [k1] at h1
    have hg : g' = g := by simpa [Value.ownBlock] using h1
    subst hg
    obtain ⟨f1, f2⟩ := flat_get k9 hr hv
    have hk : i * z + j < xs.length := by rw [k8.l]; exact (List.getElem?_eq_some_iff.1 f1).1
    obtain ⟨u, hu'⟩ : ∃ u, xs[i * z + j]? = some u := ⟨_, List.getElem?_eq_getElem hk⟩
    have hc : w.cell? ⟨g', i * z + j, none⟩ = some u := by
      rw [cell_of_row w g' _ cur e (0, 0) k3]
      have := take_get k6 (k := i * z + j) f2
      rw [hu'] at this
      simpa using this
    refine ⟨u, ?_, (k8.c _ u _ hu' f1).1⟩
    simp [execOp, ho, h2, Instr.loadAt, Instr.sureAddr, run_load_one hu ha hc]
theorem op_load_pes {o : Oper} {σ : AS} {t : TypeId} {x : Operand} (ho : o.op = .load t x) {d : TypeDesc} (hu : P.underlying t = some d) (ha : aggD d = true) {zv : Value} {sz b : Nat} (hi : TI P t zv sz b) {m z i j : Nat} (hx : σ.ev x = .pe m z i j) {e : TypeId} {rows : List (List OC)} (hm : σ.n m = .tr e z rows) {r : List OC} (hr : rows[i]? = some r) {ds : List DV} (hv : (r.drop j).take sz = ds.map .dv) (hl : Nat.beq ds.length sz = true) (hd : dOk o N = true) : OpS P N w0 U0 o σ ⟨o.dst.map fun d => (d, .d (.ag ds)), [], [m], []⟩ :=
  opS_still (P := P) (av := .d (.ag ds)) hd fun σ' hok a w F hF => by
    obtain ⟨ti, t1, _, t3, _⟩ := hi
    subst t3
    have hl' := Nat.eq_of_beq_eq_true hl
    obtain ⟨g, h1, h2⟩ := ev_get hok hF (x := x) (by simp [ho, Op.operands]) hx
    have hm' : σ'.n m = .tr e z rows := by rw [hok.n m (by simp)]; exact hm
    have hlt := (List.getElem?_eq_some_iff.1 hr).1
    obtain ⟨g', cap, cur, xs, T, k1, _, k3, _, _, k6, k7, k8, k9, _, _, _⟩ := tr_block hF hm' (by omega)
    rw [k1] at h1
    have hg : g' = g := by simpa [Value.ownBlock] using h1
    subst hg
    obtain ⟨us, q1, q2⟩ := choose_list (p := fun q u => w.cell? ⟨g', i * z + j + q, none⟩ = some u ∧ u.oneCell' = true ∧ ∀ y, ds[q]? = some y → Rd w F.U u y) ti.size (fun q hq => by
      obtain ⟨y, hy⟩ : ∃ y, ds[q]? = some y := ⟨_, List.getElem?_eq_getElem (by omega)⟩
      have hry : r[j + q]? = some (.dv y) := by
        have : ((r.drop j).take ti.size)[q]? = some (.dv y) := by rw [hv, List.getElem?_map, hy]; rfl
        rw [List.getElem?_take_of_lt hq, List.getElem?_drop] at this
        exact this
      obtain ⟨f1, f2⟩ := flat_get k9 hr hry
      rw [← Nat.add_assoc] at f1 f2
      have hk : i * z + j + q < xs.length := by rw [k8.l]; exact (List.getElem?_eq_some_iff.1 f1).1
      obtain ⟨u, hu'⟩ : ∃ u, xs[i * z + j + q]? = some u := ⟨_, List.getElem?_eq_getElem hk⟩
      refine ⟨u, ?_, k8.o u (List.mem_of_getElem? hu'), fun y' hy' => ?_⟩
      · rw [cell_of_row w g' _ cur e (0, 0) k3]
        have := take_get k6 (k := i * z + j + q) f2
        rw [hu'] at this
        simpa using this
      · rw [hy] at hy'
        injection hy' with hy'
        subst hy'
        exact (k8.c _ u _ hu' f1).1)
    refine ⟨.agg us.toArray, ?_, .ag _ _ (by simp; omega) (fun u hu => ?_) (fun q u y hu hy => (q2 q u (by simpa using hu)).2.2 y hy)⟩
    · simp [execOp, ho, h2, Instr.loadAt, Instr.sureAddr, run_load_many hu ha t1 q1 (fun q u hu => (q2 q u hu).1)]
    · obtain ⟨q, hq⟩ := List.mem_iff_getElem?.1 hu
      exact (q2 q u (by simpa using hq)).2.1
theorem op_len_tr {o : Oper} {σ : AS} {t e : TypeId} {x : Operand} (ho : o.op = .call { callee := .builtin .len, args := #[x], argTypes := #[t] }) (hu : P.underlying t = some (.slice e)) {m : Nat} {e' : TypeId} {z : Nat} {rows : List (List OC)} (hx : σ.ev x = .ow m) (hm : σ.n m = .tr e' z rows) {n : Nat} (hn : rows.length = n) (hd : dOk o N = true) : OpS P N w0 U0 o σ ⟨o.dst.map fun d => (d, .d (.fl (.int .i64 n))), [], [m], []⟩ :=
  opS_still (P := P) (av := .d (.fl (.int .i64 n))) hd fun σ' hok a w F hF => by
    have hm' : σ'.n m = .tr e' z rows := by rw [hok.n m (by simp)]; exact hm
    have hv : a.eval x = F.γ m := ev_get hok hF (x := x) (by simp [ho, Op.operands, Call.operands]) hx
    obtain ⟨A, c, hav⟩ : ∃ A c, F.γ m = .slice A rows.length c := by
      have := hF.n m
      rw [hm'] at this
      obtain ⟨xs, T, g1, _⟩ := this
      rcases g1.2 with ⟨h0, h00⟩ | ⟨g, cap, cur, h1, _⟩
      · exact ⟨none, 0, by rw [h0, h00]⟩
      · exact ⟨_, cap, h1⟩
    subst hn
    exact ⟨_, by simp [execOp, ho, resolve, invoke, builtin, Builtin.len_, hv, hav, run_underlying hu, goInt], .fl _⟩
/-- an own row out of an own row -/
theorem op_take {o : Oper} {σ : AS} {t : TypeId} {x : Operand} (m3 : Nat) (ho : o.op = .load t x) {d : TypeDesc} (hu : P.underlying t = some d) (ha : aggD d = false) {m z i j : Nat} (hx : σ.ev x = .pe m z i j) {e : TypeId} {rows : List (List OC)} (hm : σ.n m = .tr e z rows) {r : List OC} (hr : rows[i]? = some r) {e2 z2 : Nat} {rows2 : List (List DV)} (hv : r[j]? = some (.ow e2 z2 rows2)) (hne : Nat.beq m3 m = false) (hd : dOk o N = true) :
    OpS P N w0 U0 o σ ⟨o.dst.map fun d => (d, .ow m3), [(m3, .tr e2 z2 (rows2.map (·.map .dv))), (m, .tr e z (rows.set i (r.take j ++ [.un] ++ r.drop (j + 1))))], [m], [m3]⟩ := by
  intro σ' hok a w hs K Q hK
  obtain ⟨F, hF⟩ := hs.f
  obtain ⟨g, h1, h2⟩ := ev_get hok hF (x := x) (by simp [ho, Op.operands]) hx
  have hm' : σ'.n m = .tr e z rows := by rw [hok.n m (by simp)]; exact hm
  have hlt := (List.getElem?_eq_some_iff.1 hr).1
  have hjl := (List.getElem?_eq_some_iff.1 hv).1
  obtain ⟨g', cap, cur, xs, T, k1, kB, k3, k4, k5, k6, k7, k8, k9, kU, kT, kS⟩ := tr_block hF hm' (by omega)
  have hγ : (F.γ m).ownBlock = some g' := by rw [k1]; rfl
  rw [hγ] at h1
  have hg : g' = g := by simpa using h1
  subst hg
  have hrz := k9 r (List.mem_of_getElem? hr)
  obtain ⟨f1, f2⟩ := flat_get k9 hr hv
  have hk : i * z + j < xs.length := by rw [k8.l]; exact (List.getElem?_eq_some_iff.1 f1).1
  obtain ⟨u, hu'⟩ : ∃ u, xs[i * z + j]? = some u := ⟨_, List.getElem?_eq_getElem hk⟩
  have hc : w.cell? ⟨g', i * z + j, none⟩ = some u := by
    rw [cell_of_row w g' _ cur e (0, 0) k3]
    have := take_get k6 (k := i * z + j) f2
    rw [hu'] at this
    simpa using this
  obtain ⟨ys, y1, y2, y3, y4, y5⟩ := k8.c _ u _ hu' f1
  have hfr : fresh σ' m3 := hok.f m3 (by simp)
  have hmm : m ≠ m3 := fun h => by rw [h, Nat.beq_refl] at hne; cases hne
  have hlive : (σ'.n m).live = true := by rw [hm']; rfl
  have hrun : (execOp a.eval o).run P w = .ok (.value u) w := by simp [execOp, ho, h2, Instr.loadAt, Instr.sureAddr, run_load_one hu ha hc]
  have hfl := flat_splice k9 (j := j) (ds := [OC.un]) hr (by simp; omega)
  simp only [List.length_singleton] at hfl
  obtain ⟨F', hF'⟩ : ∃ F' : Fr, F' = ⟨fun k => if k = m3 then none else F.β k, fun k => if k = m3 then u else F.γ k, F.U, fun k b => if k = m3 then T (i * z + j) b else if k = m then (b = g' ∨ ∃ q, q ≠ i * z + j ∧ T q b) else F.S k b⟩ := ⟨_, rfl⟩
  have hβ3 : F'.γ m3 = u := by rw [hF']; exact if_pos rfl
  have hγm : F'.γ m = F.γ m := by rw [hF']; exact if_neg hmm
  have hU : F'.U = F.U := by rw [hF']
  have hS3 : ∀ b, F'.S m3 b ↔ T (i * z + j) b := fun b => by rw [hF']; show (if m3 = m3 then _ else _) ↔ _; rw [if_pos rfl]
  have hSm : ∀ b, F'.S m b ↔ (b = g' ∨ ∃ q, q ≠ i * z + j ∧ T q b) := fun b => by rw [hF']; show (if m = m3 then _ else if m = m then _ else _) ↔ _; rw [if_neg hmm, if_pos rfl]
  have hSk : ∀ k, k ≠ m3 → k ≠ m → ∀ b, F'.S k b ↔ F.S k b := fun k a1 a2 b => by rw [hF']; show (if k = m3 then _ else if k = m then _ else _) ↔ _; rw [if_neg a1, if_neg a2]
  have hnw : ∀ k, nwGet [(m3, Ob.tr e2 z2 (rows2.map (·.map OC.dv))), (m, Ob.tr e z (rows.set i (r.take j ++ [OC.un] ++ r.drop (j + 1))))] k = if k = m3 then some (.tr e2 z2 (rows2.map (·.map OC.dv))) else if k = m then some (.tr e z (rows.set i (r.take j ++ [OC.un] ++ r.drop (j + 1)))) else none := by
    intro k
    unfold nwGet
    by_cases a1 : k = m3
    · subst a1; rw [Nat.beq_refl, if_pos rfl]; rfl
    · rw [nbeq (Ne.symm a1), if_neg a1]
      unfold nwGet
      by_cases a2 : k = m
      · subst a2; rw [Nat.beq_refl, if_pos rfl]; rfl
      · rw [nbeq (Ne.symm a2), if_neg a2]; rfl
  have hsub : ∀ b, T (i * z + j) b → F.S m b := fun b hb => (kS b).2 (.inr ⟨_, hb⟩)
  have hb := hF.big (F' := F') (w' := w) (tw := o.dst.map fun d => (d, .ow m3)) (nw := [(m3, .tr e2 z2 (rows2.map (·.map .dv))), (m, .tr e z (rows.set i (r.take j ++ [.un] ++ r.drop (j + 1))))]) (by rw [hU]; exact Ext.rfl) (fun b _ => by rw [hU])
    (fun k hk => by
      rw [hnw] at hk
      have a1 : k ≠ m3 := fun h => by rw [if_pos h] at hk; cases hk
      rw [if_neg a1] at hk
      have a2 : k ≠ m := fun h => by rw [if_pos h] at hk; cases hk
      exact ⟨by rw [hF']; exact if_neg a1, by rw [hF']; exact if_neg a1, hSk k a1 a2⟩)
    (fun k hk => by
      rw [hnw] at hk
      by_cases a1 : k = m3
      · right; rw [a1]; exact hfr
      · left; exact ⟨by rw [hF']; exact if_neg a1, by rw [hF']; exact if_neg a1⟩)
    (fun k hl hk b hb hlt => ⟨rfl, by rw [hU]⟩)
    (fun k ob hk => by
      rw [hnw] at hk
      by_cases a1 : k = m3
      · rw [if_pos a1] at hk
        injection hk with hk
        subst hk a1
        refine ⟨ys, fun _ _ => False, by rw [hβ3, List.length_map]; exact y1, by rw [flat_map_dv, hU]; exact Tcs.ofRc y2, fun r' hr' => ?_, fun b hb => ⟨?_, fun _ => id⟩, fun b => ?_⟩
        · obtain ⟨r'', h3, rfl⟩ := List.mem_map.1 hr'
          simpa using y3 r'' h3
        · rw [hU]; rw [hβ3] at hb; exact y5 b hb
        · rw [hS3, hβ3, y4 b]
          exact ⟨.inl, fun h => h.elim id (fun ⟨_, h⟩ => h.elim)⟩
      · rw [if_neg a1] at hk
        by_cases a2 : k = m
        · rw [if_pos a2] at hk
          injection hk with hk
          subst hk a2
          refine ⟨xs, fun q b => q ≠ i * z + j ∧ T q b, by rw [hγm, List.length_set]; exact k7, ?_, fun r' hr' => ?_, fun b hb => ?_, fun b => ?_⟩
          · rw [hfl, hU]
            have hcl := k8.l
            have hcs : ∀ q, (rows.flatten.take (i * z + j) ++ [OC.un] ++ rows.flatten.drop (i * z + j + 1))[q]? = if q = i * z + j then some .un else rows.flatten[q]? := by
              intro q
              rcases Nat.lt_trichotomy q (i * z + j) with hq | hq | hq
              · rw [if_neg (by omega), List.append_assoc, List.getElem?_append_left (by simp [-List.length_flatten]; omega), List.getElem?_take_of_lt hq]
              · subst hq
                rw [if_pos rfl, List.append_assoc, List.getElem?_append_right (by simp [-List.length_flatten]; omega)]
                simp [-List.length_flatten]
                rw [Nat.min_eq_left (by omega)]
                simp
              · rw [if_neg (by omega), List.getElem?_append_right (by simp [-List.length_flatten]; omega), List.getElem?_drop]
                congr 1
                simp [-List.length_flatten]
                omega
            refine ⟨by simp [-List.length_flatten]; omega, fun q v c hv' hc' => ?_, k8.o, fun q q' b h1 h2 => k8.d q q' b h1.2 h2.2, fun q b h1 => k8.b q b h1.2⟩
            rw [hcs] at hc'
            by_cases hq : q = i * z + j
            · rw [if_pos hq] at hc'
              injection hc' with hc'
              subst hc'
              exact fun b hb => hb.1 hq
            · rw [if_neg hq] at hc'
              have := k8.c q v c hv' hc'
              have e1 : (fun b => q ≠ i * z + j ∧ T q b) = T q := by funext b; exact propext ⟨fun h => h.2, fun h => ⟨hq, h⟩⟩
              rw [e1]
              exact this
          · rcases List.mem_or_eq_of_mem_set hr' with h3 | h3
            · exact k9 r' h3
            · rw [h3]; simp; omega
          · rw [hγm] at hb
            rw [hγ] at hb
            injection hb with hb
            subst hb
            exact ⟨by rw [hU]; exact kU, fun q h => kT q h.2⟩
          · rw [hSm, hγm, hγ]
            constructor
            · rintro (h | ⟨q, h3, h4⟩)
              · exact .inl (by rw [h])
              · exact .inr ⟨q, h3, h4⟩
            · rintro (h | ⟨q, h3, h4⟩)
              · injection h with h; exact .inl h.symm
              · exact .inr ⟨q, h3, h4⟩
        · rw [if_neg a2] at hk; cases hk)
    (fun k ob k' b hk hl hk' hl' hb hb' => by
      have hS : F.S m b := by
        rw [hnw] at hk
        by_cases a1 : k = m3
        · subst a1; exact hsub b ((hS3 b).1 hb)
        · rw [if_neg a1] at hk
          by_cases a2 : k = m
          · subst a2
            rcases (hSm b).1 hb with h | ⟨q, _, h⟩
            · exact (kS b).2 (.inl h)
            · exact (kS b).2 (.inr ⟨q, h⟩)
          · rw [if_neg a2] at hk; cases hk
      have := hF.i m k' b hlive hl' hS hb'
      rw [hnw] at hk'
      subst this
      rw [if_neg hmm, if_pos rfl] at hk'
      cases hk')
    (fun k ob k' ob' b hk hl hk' hl' hb hb' => by
      rw [hnw] at hk hk'
      have no : ∀ b, T (i * z + j) b → (b = g' ∨ ∃ q, q ≠ i * z + j ∧ T q b) → False := fun b h3 h4 => by
        rcases h4 with h4 | ⟨q, h4, h5⟩
        · subst h4; exact kT _ h3
        · exact h4 (k8.d q _ b h5 h3)
      by_cases a1 : k = m3
      · by_cases a1' : k' = m3
        · rw [a1, a1']
        · rw [if_neg a1'] at hk'
          by_cases a2' : k' = m
          · subst a1 a2'; exact (no b ((hS3 b).1 hb) ((hSm b).1 hb')).elim
          · rw [if_neg a2'] at hk'; cases hk'
      · rw [if_neg a1] at hk
        by_cases a2 : k = m
        · by_cases a1' : k' = m3
          · subst a2 a1'; exact (no b ((hS3 b).1 hb') ((hSm b).1 hb)).elim
          · rw [if_neg a1'] at hk'
            by_cases a2' : k' = m
            · rw [a2, a2']
            · rw [if_neg a2'] at hk'; cases hk'
        · rw [if_neg a2] at hk; cases hk)
    (a' := a.put o.dst u) (hta_put hd hs.s (.ow m3) u).1 (fun d v h => by
      obtain ⟨rfl, h3⟩ := (hta_put hd hs.s (.ow m3) u).2 d v h
      rw [h3]
      exact hβ3.symm) [m] [m3]
  unfold Oper.wp
  rw [hrun]
  exact hK _ _ ⟨by rw [put_defers]; exact hs.d, by rw [put_size]; exact hs.s, hs.b, _, hb⟩
/-- a store into an own row -/
theorem op_store_pe {o : Oper} {σ : AS} {t : TypeId} {x y : Operand} (ho : o.op = .store t x y) (hdn : o.dst = none) {zv : Value} {sz bb : Nat} (hi : TI P t zv sz bb) {m z i j : Nat} (hx : σ.ev x = .pe m z i j) {e : TypeId} {rows : List (List OC)} (hm : σ.n m = .tr e z rows) {r : List OC} (hr : rows[i]? = some r) {av : AV} (hy : σ.ev y = av) {ds : List OC} {kill : Option Nat} (hsrc : SrcS σ av ds kill)
    (hkm : (match kill with | some q => Nat.beq q m | none => false) = false) (hl : Nat.beq ds.length sz = true) (hj : Nat.ble (j + sz) z = true) :
    OpS P N w0 U0 o σ ⟨none, (m, .tr e z (rows.set i (r.take j ++ ds ++ r.drop (j + ds.length)))) :: kill.toList.map (fun q => (q, Ob.no)), m :: kill.toList, []⟩ := by
  intro σ' hok a w hs K Q hK
  obtain ⟨F, hF⟩ := hs.f
  obtain ⟨ti, t1, _, t3, _⟩ := hi
  subst t3
  have hl' := Nat.eq_of_beq_eq_true hl
  have hj' := Nat.le_of_ble_eq_true hj
  obtain ⟨g, h1, h2⟩ := ev_get hok hF (x := x) (by simp [ho, Op.operands]) hx
  have hvy := ev_get hok hF (x := y) (by simp [ho, Op.operands]) hy
  obtain ⟨T2, s1, s2⟩ := hsrc.get hF (fun q hq => hok.n q (by simp [hq])) hvy
  have hm' : σ'.n m = .tr e z rows := by rw [hok.n m (by simp)]; exact hm
  have hlt := (List.getElem?_eq_some_iff.1 hr).1
  obtain ⟨g', cap, cur, xs, T, k1, kB, k3, k4, k5, k6, k7, k8, k9, kU, kT, kS⟩ := tr_block hF hm' (by omega)
  have hγ : (F.γ m).ownBlock = some g' := by rw [k1]; rfl
  rw [hγ] at h1
  have hg : g' = g := by simpa using h1
  subst hg
  have hrz := k9 r (List.mem_of_getElem? hr)
  have hlive : (σ'.n m).live = true := by rw [hm']; rfl
  have hkm' : ∀ q, kill = some q → q ≠ m := fun q hq h => by subst hq; subst h; simp at hkm
  have hcl : (a.eval y).cells.toList.length = ti.size := by rw [s1.l, hl']
  have hcl2 : (a.eval y).cells.size = ti.size := by simpa using hcl
  have hfit : i * z + j + ti.size ≤ rows.length * z := by
    have : (i + 1) * z ≤ rows.length * z := Nat.mul_le_mul_right z hlt
    rw [Nat.succ_mul] at this
    omega
  have hcapz : rows.length * z ≤ cap * z := Nat.mul_le_mul_right z k4
  have hxl : xs.length = rows.length * z := by rw [← k6]; simp; omega
  obtain ⟨cur', hcur'⟩ : ∃ cur' : Array Value, cur' = (cur.toList.take (i * z + j + 0) ++ (a.eval y).cells.toList ++ cur.toList.drop (i * z + j + 0 + (a.eval y).cells.toList.length)).toArray := ⟨_, rfl⟩
  have hst := run_storeCells_at (P := P) g' (i * z + j) e (a.eval y).cells.toList 0 cur w k3 (by omega) s1.o
  rw [← hcur'] at hst
  have hrun : (storeVar t ⟨g', i * z + j, none⟩ (a.eval y)).run P w = .ok () (w.setRow g' cur') := by
    unfold storeVar
    rw [Sem.run_bind, run_sizeOf' t1]
    have hne : ¬ ((a.eval y).cells.size ≠ ti.size) := by simp at hcl; simp [hcl]
    simp only [Result.andThen_ok]
    rw [if_neg hne]
    simpa using hst
  have hex : (execOp a.eval o).run P w = .ok .skip (w.setRow g' cur') := by
    simp only [execOp, ho, Instr.storeAt, Instr.sureAddr, h2, Sem.run_bind, Sem.run_pure, Result.andThen_ok, hrun]
  have hheap : (w.setRow g' cur').heap[g']? = some (.cells cur' e (0, 0)) := setRow_heap w g' cur _ e (0, 0) k3
  have hoth : ∀ b, b ≠ g' → (w.setRow g' cur').heap[b]? = w.heap[b]? := fun b hb => setRow_other w g' b _ hb
  have hE : Ext w F.U (w.setRow g' cur') F.U := ⟨fun b' o' u hcu ho' => by
    by_cases hbb : b' = g'
    · subst hbb; omega
    · exact ⟨(cell_setRow_other w g' _ ⟨b', o', none⟩ hbb).trans hcu, ho'⟩, fun r es c hr hu => ⟨hoth r (fun e => by subst e; omega), rfl⟩⟩
  have hdis : ∀ q k b, T q b → T2 k b → False := fun q k b h3 h4 => by
    obtain ⟨q', e1, e2, e3⟩ := s2 k b h4
    have := hF.i m q' b hlive e2 ((kS b).2 (.inr ⟨q, h3⟩)) e3
    exact hkm' q' e1 this.symm
  have hdis2 : ∀ k, ¬ T2 k g' := fun k h4 => by
    obtain ⟨q', e1, e2, e3⟩ := s2 k g' h4
    exact hkm' q' e1 (hF.i m q' g' hlive e2 ((kS g').2 (.inl rfl)) e3).symm
  have hspl := k8.splice s1 (i * z + j) (by rw [hcl, hxl]; omega) hdis
  have hfl := flat_splice k9 (j := j) ds hr (by omega)
  have hxs' : xs.take (i * z + j) ++ (a.eval y).cells.toList ++ xs.drop (i * z + j + (a.eval y).cells.toList.length) = cur'.toList.take (rows.length * z) := by
    rw [hcur', ← k6]
    simp only [Nat.add_zero]
    have hcs : cur.toList.length = cap * z := by simp; omega
    have hA : (cur.toList.take (i * z + j) ++ (a.eval y).cells.toList).length = i * z + j + (a.eval y).cells.toList.length := by
      rw [List.length_append, List.length_take, hcs, Nat.min_eq_left (by omega)]
    rw [List.take_append, hA, List.take_of_length_le (l := cur.toList.take (i * z + j) ++ (a.eval y).cells.toList) (by omega), List.take_take, Nat.min_eq_left (by omega), List.drop_take]
  obtain ⟨T', hT'⟩ : ∃ T' : Nat → Nat → Prop, T' = fun q b => if q < i * z + j then T q b else if q < i * z + j + (a.eval y).cells.toList.length then T2 (q - (i * z + j)) b else T q b := ⟨_, rfl⟩
  rw [← hT'] at hspl
  have hTsub : ∀ q b, T' q b → (∃ k, T k b) ∨ ∃ k, T2 k b := fun q b h => by
    rw [hT'] at h
    split at h
    · exact .inl ⟨_, h⟩
    · split at h
      · exact .inr ⟨_, h⟩
      · exact .inl ⟨_, h⟩
  have hTlt : ∀ q b, T' q b → b ≠ g' := fun q b h e' => by
    subst e'
    rcases hTsub q b h with ⟨k, h⟩ | ⟨k, h⟩
    · exact kT k h
    · exact hdis2 k h
  have hnw : ∀ k, nwGet ((m, Ob.tr e z (rows.set i (r.take j ++ ds ++ r.drop (j + ds.length)))) :: kill.toList.map (fun q => (q, Ob.no))) k = if k = m then some (.tr e z (rows.set i (r.take j ++ ds ++ r.drop (j + ds.length)))) else if some k = kill then some .no else none := by
    intro k
    unfold nwGet
    by_cases a1 : k = m
    · subst a1; rw [Nat.beq_refl, if_pos rfl]; rfl
    · rw [nbeq (Ne.symm a1), if_neg a1]
      cases kill with
      | none => rfl
      | some q =>
        show nwGet [(q, Ob.no)] k = _
        unfold nwGet
        by_cases a2 : k = q
        · subst a2; rw [Nat.beq_refl, if_pos rfl]; rfl
        · rw [nbeq (Ne.symm a2), if_neg (by simpa using a2)]; rfl
  obtain ⟨F', hF'⟩ : ∃ F' : Fr, F' = ⟨F.β, F.γ, F.U, fun k b => if k = m then (b = g' ∨ ∃ q, T' q b) else F.S k b⟩ := ⟨_, rfl⟩
  have hU : F'.U = F.U := by rw [hF']
  have hγ' : F'.γ = F.γ := by rw [hF']
  have hSm : ∀ b, F'.S m b ↔ (b = g' ∨ ∃ q, T' q b) := fun b => by rw [hF']; show (if m = m then _ else _) ↔ _; rw [if_pos rfl]
  have hSk : ∀ k, k ≠ m → ∀ b, F'.S k b ↔ F.S k b := fun k a2 b => by rw [hF']; show (if k = m then _ else _) ↔ _; rw [if_neg a2]
  have hown : ∀ b, (b = g' ∨ ∃ q, T' q b) → F.S m b ∨ ∃ q', kill = some q' ∧ (σ'.n q').live = true ∧ F.S q' b := fun b h => by
    rcases h with h | ⟨q, h⟩
    · exact .inl ((kS b).2 (.inl h))
    · rcases hTsub q b h with h | ⟨k, h⟩
      · exact .inl ((kS b).2 (.inr h))
      · exact .inr (s2 k b h)
  have hb := hF.big (F' := F') (w' := w.setRow g' cur') (tw := none) (nw := (m, .tr e z (rows.set i (r.take j ++ ds ++ r.drop (j + ds.length)))) :: kill.toList.map (fun q => (q, Ob.no))) (by rw [hU]; exact hE) (fun b _ => by rw [hU])
    (fun k hk => by
      rw [hnw] at hk
      have a1 : k ≠ m := fun h => by rw [if_pos h] at hk; cases hk
      exact ⟨by rw [hF'], by rw [hF'], hSk k a1⟩)
    (fun k hk => .inl ⟨by rw [hF'], by rw [hF']⟩)
    (fun k hl hk b hb hlt => ⟨hoth b (fun e' => by
      subst e'
      have := hF.i k m b hl hlive hb ((kS b).2 (.inl rfl))
      subst this
      rw [hnw, if_pos rfl] at hk; cases hk), by rw [hU]⟩)
    (fun k ob hk => by
      rw [hnw] at hk
      by_cases a1 : k = m
      · rw [if_pos a1] at hk
        injection hk with hk
        subst hk a1
        refine ⟨xs.take (i * z + j) ++ (a.eval y).cells.toList ++ xs.drop (i * z + j + (a.eval y).cells.toList.length), T', ?_, ?_, fun r' hr' => ?_, fun b hb => ?_, fun b => ?_⟩
        · rw [hγ', List.length_set, k1]
          refine ⟨?_, .inr ⟨g', cap, cur', rfl, kB, hheap, k4, ?_, ?_, hxs'.symm⟩⟩
          · simp; omega
          · rcases k7.2 with ⟨h0, _⟩ | ⟨_, _, _, h0, _, _, _, hcm, _⟩
            · rw [k1] at h0; cases h0
            · rw [k1] at h0
              injection h0 with _ _ h0
              rw [h0]; exact hcm
          · rw [hcur']; simp; omega
        · rw [hfl, hU]
          exact hspl.ext hE (fun q b hq hlt => ⟨hoth b (hTlt q b hq), rfl⟩)
        · rcases List.mem_or_eq_of_mem_set hr' with h3 | h3
          · exact k9 r' h3
          · rw [h3]; simp; omega
        · rw [hγ', hγ] at hb
          injection hb with hb
          subst hb
          exact ⟨by rw [hU]; exact kU, fun q h => hTlt q _ h rfl⟩
        · rw [hSm, hγ', hγ]
          constructor
          · rintro (h | h)
            · exact .inl (by rw [h])
            · exact .inr h
          · rintro (h | h)
            · injection h with h; exact .inl h.symm
            · exact .inr h
      · rw [if_neg a1] at hk
        by_cases a2 : some k = kill
        · rw [if_pos a2] at hk; injection hk with hk; subst hk; trivial
        · rw [if_neg a2] at hk; cases hk)
    (fun k ob k' b hk hl hk' hl' hb hb' => by
      rw [hnw] at hk hk'
      by_cases a1 : k = m
      · subst a1
        have a1' : k' ≠ k := fun h => by rw [if_pos h] at hk'; cases hk'
        rw [if_neg a1'] at hk'
        have a2' : some k' ≠ kill := fun h => by rw [if_pos h] at hk'; cases hk'
        rcases hown b ((hSm b).1 hb) with h | ⟨q', e1, e2, e3⟩
        · exact a1' (hF.i k k' b hlive hl' h hb').symm
        · exact a2' (by rw [e1]; exact congrArg some (hF.i k' q' b hl' e2 hb' e3))
      · rw [if_neg a1] at hk
        by_cases a2 : some k = kill
        · rw [if_pos a2] at hk; injection hk with hk; subst hk; cases hl
        · rw [if_neg a2] at hk; cases hk)
    (fun k ob k' ob' b hk hl hk' hl' hb hb' => by
      rw [hnw] at hk hk'
      have key : ∀ k (ob : Ob), (if k = m then some (.tr e z (rows.set i (r.take j ++ ds ++ r.drop (j + ds.length)))) else if some k = kill then some .no else none) = some ob → ob.live = true → k = m := fun k ob hk hl => by
        by_cases a1 : k = m
        · exact a1
        · rw [if_neg a1] at hk
          by_cases a2 : some k = kill
          · rw [if_pos a2] at hk; injection hk with hk; subst hk; cases hl
          · rw [if_neg a2] at hk; cases hk
      rw [key k ob hk hl, key k' ob' hk' hl'])
    (a' := a) (fun t => rfl) (fun d v h => by cases h) (m :: kill.toList) []
  unfold Oper.wp
  rw [hex, Oper.upon_skip, hdn]
  refine hK _ _ ⟨hs.d, hs.s, hs.b.trans ⟨rfl, rfl, rfl, by simp, fun k hk => hoth k (by omega)⟩, _, hb⟩
end
end Go.Proofs.Ytobgdemhadlgnaa.Av
