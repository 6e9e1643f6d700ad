/- Data by value: what a value reads as in a world, and the state of a frame in these words. No condition. -/
import Derived.WalkKit
import Derived.Below
import Derived.Orders
import Derived.Laws.AppendOwn
import Derived.Laws.Entries
import Derived.Lib.Hide
set_option linter.unusedSimpArgs false
set_option linter.unusedVariables false
namespace Go.Proofs.Yteplcjhnmmpicaa.Av
open Go Go.RowKit
/-- a datum -/
inductive DV where
  | fl (x : Value)
  | ag (cs : List DV)
  | sl (z : Nat) (rows : List (List DV))
  | el (cs : List DV)
  | fn (f : FuncId) (cs : List DV)
  | mp (ents : List (Value × DV))
/-- what is known of a temporary -/
inductive AV where
  | un
  | d (x : DV)
  | pt (m o : Nat)
  | pe (m z i j : Nat)
  | pv (m : Nat) (x : Value)
  | pw (m : Nat) (x : Value)
  | ow (m : Nat)
  | tu (cs : List DV)
abbrev AV.el (cs : List DV) : AV := .d (.el cs)
/-- a cell that may own the row behind it -/
inductive OC where
  | un
  | dv (x : DV)
  | ow (e : TypeId) (z : Nat) (rows : List (List DV))
def OC.rd : OC → DV
  | .un => .fl (.tuple #[])
  | .dv x => x
  | .ow _ z rows => .sl z rows
/-- what is known of a block of the call's own -/
inductive Ob where
  | no
  | bx (ty : TypeId) (cs : List DV)
  | ow (e : TypeId) (z : Nat) (rows : List (List DV))
  | tr (e : TypeId) (z : Nat) (rows : List (List OC))
  | bt (ty : TypeId) (cs : List OC)
  | sv (cs : List OC)
  | mp (ents : List (Value × DV))
  | it (s : ByteArray) (p : Nat)
  | pin (H : World) (V : Nat → Nat) (Q : Nat → Prop)
def Ob.live : Ob → Bool
  | .no => false
  | _ => true
def cellAt (rows : List (List DV)) (i j : Nat) : Option DV := (rows[i]?).bind (·[j]?)
inductive Rd (w : World) (U : Nat → Nat) : Value → DV → Prop
  | fl (x : Value) : Rd w U x (.fl x)
  | ag (vs : Array Value) (cs : List DV) (h : vs.size = cs.length) (ho : ∀ u ∈ vs.toList, u.oneCell' = true) (hc : ∀ (j : Nat) (u : Value) (x : DV), vs.toList[j]? = some u → cs[j]? = some x → Rd w U u x) : Rd w U (.agg vs) (.ag cs)
  | sn (A : Option Addr) (c z : Nat) : Rd w U (.slice A 0 c) (.sl z [])
  | sl (b off n c z : Nat) (rows : List (List DV)) (u : Nat → Nat → Value) (hn : rows.length = n) (hz : ∀ r ∈ rows, r.length = z) (hm : n ≤ 9223372036854775807 ∧ n ≤ c)
      (hcell : ∀ i j x, cellAt rows i j = some x → w.cell? ⟨b, off + i * z + j, none⟩ = some (u i j) ∧ off + i * z + j < U b ∧ (u i j).oneCell' = true)
      (hr : ∀ i j x, cellAt rows i j = some x → Rd w U (u i j) x) : Rd w U (.slice (some ⟨b, off, none⟩) n c) (.sl z rows)
  | el (b off : Nat) (cs : List DV) (u : Nat → Value) (hcell : ∀ (j : Nat) (x : DV), cs[j]? = some x → w.cell? ⟨b, off + j, none⟩ = some (u j) ∧ off + j < U b ∧ (u j).oneCell' = true)
      (hr : ∀ (j : Nat) (x : DV), cs[j]? = some x → Rd w U (u j) x) : Rd w U (.pointer (some ⟨b, off, none⟩)) (.el cs)
  | fn (f : FuncId) (vs : Array Value) (cs : List DV) (h : vs.size = cs.length) (hc : ∀ (j : Nat) (u : Value) (x : DV), vs.toList[j]? = some u → cs[j]? = some x → Rd w U u x) : Rd w U (.func (.func f) #[] vs) (.fn f cs)
  | mp (r : Nat) (es : Array MapEntry) (c : Nat) (ents : List (Value × DV)) (hb : w.heap[r]? = some (.map es c)) (hu : 0 < U r) (hl : es.size = ents.length) (hk : ∀ (i : Nat) (e : MapEntry) (x : Value × DV), es.toList[i]? = some e → ents[i]? = some x → e.key = x.1)
      (hv : ∀ (i : Nat) (e : MapEntry) (x : Value × DV), es.toList[i]? = some e → ents[i]? = some x → Rd w U e.val x.2) : Rd w U (.map (some r)) (.mp ents)
structure Ext (w : World) (U : Nat → Nat) (w' : World) (U' : Nat → Nat) : Prop where
  c : ∀ b o u, w.cell? ⟨b, o, none⟩ = some u → o < U b → w'.cell? ⟨b, o, none⟩ = some u ∧ o < U' b
  m : ∀ r es c, w.heap[r]? = some (.map es c) → 0 < U r → w'.heap[r]? = w.heap[r]? ∧ U' r = U r
theorem Ext.rfl {w : World} {U : Nat → Nat} : Ext w U w U := ⟨fun _ _ _ h1 h2 => ⟨h1, h2⟩, fun _ _ _ _ _ => ⟨by rfl, by rfl⟩⟩
theorem Rd.ext {w w' : World} {U U' : Nat → Nat} (hE : Ext w U w' U') {v : Value} {x : DV} (h : Rd w U v x) : Rd w' U' v x := by
  induction h with
  | fl x => exact .fl x
  | ag vs cs h ho hc ih => exact .ag vs cs h ho ih
  | sn A c z => exact .sn A c z
  | sl b off n c z rows u hn hz hm hcell hr ih =>
    exact .sl b off n c z rows u hn hz hm (fun i j x hx => by
      obtain ⟨h1, h2, h3⟩ := hcell i j x hx
      obtain ⟨h4, h5⟩ := hE.c _ _ _ h1 h2
      exact ⟨h4, h5, h3⟩) ih
  | el b off cs u hcell hr ih =>
    exact .el b off cs u (fun j x hx => by
      obtain ⟨h1, h2, h3⟩ := hcell j x hx
      obtain ⟨h4, h5⟩ := hE.c _ _ _ h1 h2
      exact ⟨h4, h5, h3⟩) ih
  | fn f vs cs h hc ih => exact .fn f vs cs h ih
  | mp r es c ents hb hu hl hk hv ih =>
    obtain ⟨h1, h2⟩ := hE.m r es c hb hu
    exact .mp r es c ents (h1.trans hb) (by omega) hl hk ih
def Rds (w : World) (U : Nat → Nat) (vs : List Value) (cs : List DV) : Prop := vs.length = cs.length ∧ ∀ (j : Nat) (u : Value) (x : DV), vs[j]? = some u → cs[j]? = some x → Rd w U u x
def Rc (w : World) (U : Nat → Nat) (vs : List Value) (cs : List DV) : Prop := Rds w U vs cs ∧ ∀ u ∈ vs, u.oneCell' = true
theorem Rds.ext {w w' : World} {U U' : Nat → Nat} (hE : Ext w U w' U') {vs : List Value} {cs : List DV} (h : Rds w U vs cs) : Rds w' U' vs cs := ⟨h.1, fun j u x h1 h2 => (h.2 j u x h1 h2).ext hE⟩
theorem Rc.ext {w w' : World} {U U' : Nat → Nat} (hE : Ext w U w' U') {vs : List Value} {cs : List DV} (h : Rc w U vs cs) : Rc w' U' vs cs := ⟨h.1.ext hE, h.2⟩
theorem Rds.nil {w : World} {U : Nat → Nat} : Rds w U [] [] := ⟨rfl, fun j u x h => by simp at h⟩
theorem Rds.cons {w : World} {U : Nat → Nat} {v : Value} {vs : List Value} {c : DV} {cs : List DV} (h : Rd w U v c) (hs : Rds w U vs cs) : Rds w U (v :: vs) (c :: cs) := by
  refine ⟨by simp [hs.1], fun j u x h1 h2 => ?_⟩
  cases j with
  | zero => simp at h1 h2; subst h1 h2; exact h
  | succ j => simp at h1 h2; exact hs.2 j u x h1 h2
theorem Rds.inv_cons {w : World} {U : Nat → Nat} {v : Value} {vs : List Value} {c : DV} {cs : List DV} (h : Rds w U (v :: vs) (c :: cs)) : Rd w U v c ∧ Rds w U vs cs :=
  ⟨h.2 0 v c rfl rfl, by have := h.1; simpa using this, fun j u x h1 h2 => h.2 (j + 1) u x (by simpa using h1) (by simpa using h2)⟩
theorem Rds.append {w : World} {U : Nat → Nat} {vs us : List Value} {cs ds : List DV} (h : Rds w U vs cs) (k : Rds w U us ds) : Rds w U (vs ++ us) (cs ++ ds) := by
  refine ⟨by simp [h.1, k.1], fun j u x h1 h2 => ?_⟩
  have hl := h.1
  rcases Nat.lt_or_ge j vs.length with hj | hj
  · rw [List.getElem?_append_left hj] at h1
    rw [List.getElem?_append_left (by omega)] at h2
    exact h.2 j u x h1 h2
  · rw [List.getElem?_append_right hj] at h1
    rw [List.getElem?_append_right (by omega), ← hl] at h2
    exact k.2 _ u x h1 h2
theorem Rc.append {w : World} {U : Nat → Nat} {vs us : List Value} {cs ds : List DV} (h : Rc w U vs cs) (k : Rc w U us ds) : Rc w U (vs ++ us) (cs ++ ds) :=
  ⟨h.1.append k.1, fun u hu => (List.mem_append.1 hu).elim (h.2 u) (k.2 u)⟩
/-- the world has grown; nothing that was there has turned -/
structure Up (w : World) (U : Nat → Nat) (w' : World) (U' : Nat → Nat) : Prop where
  h : ∀ b, b < w.heap.size → w'.heap[b]? = w.heap[b]?
  u : ∀ b, b < w.heap.size → U' b = U b
theorem Up.ext {w w' : World} {U U' : Nat → Nat} (h : Up w U w' U') : Ext w U w' U' := ⟨fun b o u hc ho => by
  have hlt := World.block_lt_of_cell? w _ hc
  exact ⟨(World.cell?_of_block (h.h b hlt)).trans hc, by rw [h.u b hlt]; exact ho⟩, fun r es c hr hu => by
  have hlt : r < w.heap.size := (Array.getElem?_eq_some_iff.1 hr).1
  exact ⟨h.h r hlt, h.u r hlt⟩⟩
theorem elD {w : World} {U : Nat → Nat} {v : Value} {cs : List DV} (h : Rd w U v (.el cs)) : ∃ b off, v = .pointer (some ⟨b, off, none⟩) ∧ ∀ (j : Nat) (x : DV), cs[j]? = some x → ∃ u, w.cell? ⟨b, off + j, none⟩ = some u ∧ off + j < U b ∧ u.oneCell' = true ∧ Rd w U u x := by
  cases h with
  | el b off _ u hcell hr => exact ⟨b, off, rfl, fun j x hx => ⟨u j, (hcell j x hx).1, (hcell j x hx).2.1, (hcell j x hx).2.2, hr j x hx⟩⟩
theorem elM {w : World} {U : Nat → Nat} {b off : Nat} {cs : List DV} (h : ∀ (j : Nat) (x : DV), cs[j]? = some x → ∃ u, w.cell? ⟨b, off + j, none⟩ = some u ∧ off + j < U b ∧ u.oneCell' = true ∧ Rd w U u x) : Rd w U (.pointer (some ⟨b, off, none⟩)) (.el cs) := by
  refine .el b off cs (fun j => (w.cell? ⟨b, off + j, none⟩).getD undef) (fun j x hx => ?_) (fun j x hx => ?_)
  · obtain ⟨u, h1, h2, h3, _⟩ := h j x hx
    rw [h1]
    exact ⟨rfl, h2, h3⟩
  · obtain ⟨u, h1, _, _, h4⟩ := h j x hx
    rw [h1]
    exact h4
structure Fr where
  β : Nat → Option Nat
  γ : Nat → Value
  U : Nat → Nat
  S : Nat → Nat → Prop
def Rav (w : World) (F : Fr) : AV → Value → Prop
  | .un, _ => True
  | .d x, v => Rd w F.U v x
  | .pt m o, v => ∃ b, F.β m = some b ∧ v = .pointer (some ⟨b, o, none⟩)
  | .pe m z i j, v => ∃ b, (F.γ m).ownBlock = some b ∧ v = .pointer (some ⟨b, i * z + j, none⟩)
  | .pv m x, v => v = x ∧ ∃ b, F.β m = some b ∧ x = .pointer (some ⟨b, 0, none⟩)
  | .pw m x, v => v = x ∧ x = F.γ m
  | .ow m, v => v = F.γ m
  | .tu cs, v => ∃ vs : Array Value, v = .tuple vs ∧ Rds w F.U vs.toList cs
/-- a cell and what it owns -/
def Toc (w : World) (U : Nat → Nat) (B : Nat) (u : Value) (T : Nat → Prop) : OC → Prop
  | .un => ∀ b, ¬ T b
  | .dv x => Rd w U u x ∧ ∀ b, ¬ T b
  | .ow e z rows => ∃ xs, w.ownsRow B e z u rows.length xs ∧ Rc w U xs rows.flatten ∧ (∀ r ∈ rows, r.length = z) ∧ (∀ b, T b ↔ u.ownBlock = some b) ∧ ∀ b, u.ownBlock = some b → U b = 0
structure Tcs (w : World) (U : Nat → Nat) (B : Nat) (us : List Value) (cs : List OC) (T : Nat → Nat → Prop) : Prop where
  l : us.length = cs.length
  c : ∀ (k : Nat) (u : Value) (c : OC), us[k]? = some u → cs[k]? = some c → Toc w U B u (T k) c
  o : ∀ u ∈ us, u.oneCell' = true
  d : ∀ k k' b, T k b → T k' b → k = k'
  b : ∀ k b, T k b → k < us.length
/-- the entries of a map, in the order in which they came -/
def Ents (w : World) (U : Nat → Nat) (es : List MapEntry) (xs : List (Value × DV)) : Prop := es.length = xs.length ∧ ∀ (i : Nat) (e : MapEntry) (x : Value × DV), es[i]? = some e → xs[i]? = some x → e.key = x.1 ∧ Rd w U e.val x.2
theorem Ents.ext {w w' : World} {U U' : Nat → Nat} (hE : Ext w U w' U') {es : List MapEntry} {xs : List (Value × DV)} (h : Ents w U es xs) : Ents w' U' es xs := ⟨h.1, fun i e x h1 h2 => ⟨(h.2 i e x h1 h2).1, (h.2 i e x h1 h2).2.ext hE⟩⟩
def Rob (B : Nat) (w : World) (F : Fr) (m : Nat) : Ob → Prop
  | .no => True
  | .bx ty cs => ∃ b vs, F.β m = some b ∧ B ≤ b ∧ F.U b = 0 ∧ w.heap[b]? = some (.cells vs ty (0, 0)) ∧ Rc w F.U vs.toList cs ∧ ∀ b', F.S m b' ↔ b' = b
  | .ow e z rows => ∃ xs, w.ownsRow B e z (F.γ m) rows.length xs ∧ Rc w F.U xs rows.flatten ∧ (∀ r ∈ rows, r.length = z) ∧ (∀ b, F.S m b ↔ (F.γ m).ownBlock = some b) ∧ ∀ b, F.S m b → F.U b = rows.length * z
  | .tr e z rows => ∃ xs T, w.ownsRow B e z (F.γ m) rows.length xs ∧ Tcs w F.U B xs rows.flatten T ∧ (∀ r ∈ rows, r.length = z) ∧ (∀ b, (F.γ m).ownBlock = some b → F.U b = 0 ∧ ∀ k, ¬ T k b) ∧ ∀ b, F.S m b ↔ ((F.γ m).ownBlock = some b ∨ ∃ k, T k b)
  | .bt ty cs => ∃ b vs T, F.β m = some b ∧ B ≤ b ∧ F.U b = 0 ∧ w.heap[b]? = some (.cells vs ty (0, 0)) ∧ Tcs w F.U B vs.toList cs T ∧ (∀ k, ¬ T k b) ∧ ∀ b', F.S m b' ↔ (b' = b ∨ ∃ k, T k b')
  | .sv cs => ∃ vs T, F.γ m = .agg vs ∧ Tcs w F.U B vs.toList cs T ∧ ∀ b, F.S m b ↔ ∃ k, T k b
  | .mp ents => ∃ b es c, F.γ m = .map (some b) ∧ B ≤ b ∧ F.U b = 0 ∧ w.heap[b]? = some (.map es c) ∧ Ents w F.U es.toList ents ∧ ∀ b', F.S m b' ↔ b' = b
  | .it s p => ∃ b, F.γ m = .pointer (some ⟨b, 0, none⟩) ∧ B ≤ b ∧ F.U b = 0 ∧ w.heap[b]? = some (.stringIter s p) ∧ ∀ b', F.S m b' ↔ b' = b
  | .pin H V Q => (∀ b, F.S m b ↔ Q b) ∧ ∀ b, Q b → B ≤ b ∧ b < w.heap.size ∧ w.heap[b]? = H.heap[b]? ∧ F.U b = V b
structure AS where
  t : Nat → AV
  n : Nat → Ob
structure Fits (w0 : World) (U0 : Nat → Nat) (σ : AS) (a : Act) (w : World) (F : Fr) : Prop where
  u : ∀ b, b < w0.heap.size → F.U b = U0 b
  t : ∀ t, Rav w F (σ.t t) (a.tmps.getD t undef)
  n : ∀ m, Rob w0.heap.size w F m (σ.n m)
  i : ∀ m m' b, (σ.n m).live = true → (σ.n m').live = true → F.S m b → F.S m' b → m = m'
structure St (N : Nat) (w0 : World) (U0 : Nat → Nat) (σ : AS) (a : Act) (w : World) : Prop where
  d : a.defers = []
  s : a.tmps.size = N
  b : Below w0.heap.size w0 w
  f : ∃ F, Fits w0 U0 σ a w F
/-- what the names own stays as it is -/
def Kept (w : World) (F : Fr) (w' : World) (U' : Nat → Nat) (m : Nat) : Prop := ∀ b, F.S m b → b < w.heap.size → w'.heap[b]? = w.heap[b]? ∧ U' b = F.U b
theorem ownsRow_up {w w' : World} {base : Nat} {e : TypeId} {size : Nat} {v : Value} {n : Nat} {xs : List Value} (h : w.ownsRow base e size v n xs) (hb : ∀ g, v.ownBlock = some g → w'.heap[g]? = w.heap[g]?) : w'.ownsRow base e size v n xs := by
  refine ⟨h.1, ?_⟩
  rcases h.2 with h0 | ⟨g, cap, cur, h1, h2, h3, h4⟩
  · exact .inl h0
  · exact .inr ⟨g, cap, cur, h1, h2, (hb g (by rw [h1]; rfl)).trans h3, h4⟩
theorem Toc.ext {w w' : World} {U U' : Nat → Nat} {B : Nat} (hE : Ext w U w' U') {u : Value} {T : Nat → Prop} {c : OC} (hT : ∀ b, T b → b < w.heap.size → w'.heap[b]? = w.heap[b]? ∧ U' b = U b) (h : Toc w U B u T c) : Toc w' U' B u T c := by
  cases c with
  | un => exact h
  | dv x => exact ⟨h.1.ext hE, h.2⟩
  | ow e z rows =>
    obtain ⟨xs, h1, h2, h3, h4, h5⟩ := h
    refine ⟨xs, ownsRow_up h1 (fun g hg => (hT g ((h4 g).2 hg) (h1.lt g hg).2).1), h2.ext hE, h3, h4, fun b hb => ?_⟩
    exact ((hT b ((h4 b).2 hb) (h1.lt b hb).2).2).trans (h5 b hb)
theorem Tcs.ext {w w' : World} {U U' : Nat → Nat} {B : Nat} (hE : Ext w U w' U') {us : List Value} {cs : List OC} {T : Nat → Nat → Prop} (hT : ∀ k b, T k b → b < w.heap.size → w'.heap[b]? = w.heap[b]? ∧ U' b = U b) (h : Tcs w U B us cs T) : Tcs w' U' B us cs T :=
  ⟨h.l, fun k u c h1 h2 => (h.c k u c h1 h2).ext hE (hT k), h.o, h.d, h.b⟩
theorem Toc.lt {w : World} {U : Nat → Nat} {B : Nat} {u : Value} {T : Nat → Prop} {c : OC} (h : Toc w U B u T c) {b : Nat} (hb : T b) : B ≤ b ∧ b < w.heap.size := by
  cases c with
  | un => exact absurd hb (h b)
  | dv x => exact absurd hb (h.2 b)
  | ow e z rows =>
    obtain ⟨xs, h1, _, _, h4, _⟩ := h
    exact h1.lt b ((h4 b).1 hb)
theorem Tcs.lt {w : World} {U : Nat → Nat} {B : Nat} {us : List Value} {cs : List OC} {T : Nat → Nat → Prop} (h : Tcs w U B us cs T) {k b : Nat} (hb : T k b) : B ≤ b ∧ b < w.heap.size := by
  have hk := h.b k b hb
  have hl := h.l
  exact (h.c k _ _ (List.getElem?_eq_getElem hk) (List.getElem?_eq_getElem (by omega))).lt hb
/-- what a name owns lies in the heap, behind the base -/
theorem Rob.lt {B : Nat} {w : World} {F : Fr} {m : Nat} {o : Ob} (h : Rob B w F m o) (hl : o.live = true) {b : Nat} (hb : F.S m b) : B ≤ b ∧ b < w.heap.size := by
  cases o with
  | no => cases hl
  | bx ty cs =>
    obtain ⟨b', vs, _, h2, _, h4, _, h6⟩ := h
    rw [(h6 b).1 hb]
    exact ⟨h2, (Array.getElem?_eq_some_iff.1 h4).1⟩
  | ow e z rows =>
    obtain ⟨xs, h1, _, _, h4, _⟩ := h
    exact h1.lt b ((h4 b).1 hb)
  | tr e z rows =>
    obtain ⟨xs, T, h1, h2, _, _, h5⟩ := h
    rcases (h5 b).1 hb with h6 | ⟨k, h6⟩
    · exact h1.lt b h6
    · exact h2.lt h6
  | bt ty cs =>
    obtain ⟨b', vs, T, _, h2, _, h4, h5, _, h7⟩ := h
    rcases (h7 b).1 hb with h6 | ⟨k, h6⟩
    · rw [h6]; exact ⟨h2, (Array.getElem?_eq_some_iff.1 h4).1⟩
    · exact h5.lt h6
  | sv cs =>
    obtain ⟨vs, T, _, h2, h3⟩ := h
    obtain ⟨k, h6⟩ := (h3 b).1 hb
    exact h2.lt h6
  | mp ents =>
    obtain ⟨b', es, c, _, h2, _, h4, _, h6⟩ := h
    rw [(h6 b).1 hb]
    exact ⟨h2, (Array.getElem?_eq_some_iff.1 h4).1⟩
  | it s p =>
    obtain ⟨b', _, h2, _, h4, h6⟩ := h
    rw [(h6 b).1 hb]
    exact ⟨h2, (Array.getElem?_eq_some_iff.1 h4).1⟩
  | pin H V Q =>
    obtain ⟨h1, h2⟩ := h
    obtain ⟨h3, h4, _⟩ := h2 b ((h1 b).1 hb)
    exact ⟨h3, h4⟩
theorem Rav.ext {w w' : World} {F : Fr} {U' : Nat → Nat} (hE : Ext w F.U w' U') {x : AV} {v : Value} (h : Rav w F x v) : Rav w' { F with U := U' } x v := by
  cases x with
  | un => trivial
  | d x => exact Rd.ext hE h
  | pt m o => exact h
  | pe m z i j => exact h
  | pv m x => exact h
  | pw m x => exact h
  | ow m => exact h
  | tu cs => obtain ⟨vs, e, hv⟩ := h; exact ⟨vs, e, hv.ext hE⟩
theorem Rob.ext {B : Nat} {w w' : World} {F : Fr} {U' : Nat → Nat} (hE : Ext w F.U w' U') {m : Nat} {o : Ob} (hb : Kept w F w' U' m) (h : Rob B w F m o) : Rob B w' { F with U := U' } m o := by
  cases o with
  | no => trivial
  | bx ty cs =>
    obtain ⟨b, vs, h1, h2, h3, h4, h5, h6⟩ := h
    have hlt : b < w.heap.size := (Array.getElem?_eq_some_iff.1 h4).1
    obtain ⟨h7, h8⟩ := hb b ((h6 b).2 rfl) hlt
    exact ⟨b, vs, h1, h2, h8.trans h3, h7.trans h4, h5.ext hE, h6⟩
  | ow e z rows =>
    obtain ⟨xs, h1, h2, h3, h4, h5⟩ := h
    refine ⟨xs, ownsRow_up h1 (fun g hg => (hb g ((h4 g).2 hg) (h1.lt g hg).2).1), h2.ext hE, h3, h4, fun b hbb => ?_⟩
    exact (hb b hbb (h1.lt b ((h4 b).1 hbb)).2).2.trans (h5 b hbb)
  | tr e z rows =>
    obtain ⟨xs, T, h1, h2, h3, h4, h5⟩ := h
    refine ⟨xs, T, ownsRow_up h1 (fun g hg => (hb g ((h5 g).2 (.inl hg)) (h1.lt g hg).2).1), h2.ext hE (fun k b hk hlt => hb b ((h5 b).2 (.inr ⟨k, hk⟩)) hlt), h3, fun b hbb => ⟨?_, (h4 b hbb).2⟩, h5⟩
    exact (hb b ((h5 b).2 (.inl hbb)) (h1.lt b hbb).2).2.trans (h4 b hbb).1
  | bt ty cs =>
    obtain ⟨b, vs, T, h1, h2, h3, h4, h5, h6, h7⟩ := h
    have hlt : b < w.heap.size := (Array.getElem?_eq_some_iff.1 h4).1
    obtain ⟨h8, h9⟩ := hb b ((h7 b).2 (.inl rfl)) hlt
    exact ⟨b, vs, T, h1, h2, h9.trans h3, h8.trans h4, h5.ext hE (fun k b' hk hlt => hb b' ((h7 b').2 (.inr ⟨k, hk⟩)) hlt), h6, h7⟩
  | sv cs =>
    obtain ⟨vs, T, h1, h2, h3⟩ := h
    exact ⟨vs, T, h1, h2.ext hE (fun k b hk hlt => hb b ((h3 b).2 ⟨k, hk⟩) hlt), h3⟩
  | mp ents =>
    obtain ⟨b, es, c, h1, h2, h3, h4, h5, h6⟩ := h
    have hlt : b < w.heap.size := (Array.getElem?_eq_some_iff.1 h4).1
    obtain ⟨h7, h8⟩ := hb b ((h6 b).2 rfl) hlt
    exact ⟨b, es, c, h1, h2, h8.trans h3, h7.trans h4, h5.ext hE, h6⟩
  | it s p =>
    obtain ⟨b, h1, h2, h3, h4, h6⟩ := h
    have hlt : b < w.heap.size := (Array.getElem?_eq_some_iff.1 h4).1
    obtain ⟨h7, h8⟩ := hb b ((h6 b).2 rfl) hlt
    exact ⟨b, h1, h2, h8.trans h3, h7.trans h4, h6⟩
  | pin H V Q =>
    obtain ⟨h1, h2⟩ := h
    refine ⟨h1, fun b hq => ?_⟩
    obtain ⟨h3, h4, h5, h6⟩ := h2 b hq
    obtain ⟨h7, h8⟩ := hb b ((h1 b).2 hq) h4
    refine ⟨h3, ?_, h7.trans h5, h8.trans h6⟩
    have h9 := h7
    rw [Array.getElem?_eq_getElem h4] at h9
    exact (Array.getElem?_eq_some_iff.1 h9).1
/-- the frame in a world that has grown -/
theorem Fits.up {w0 : World} {U0 : Nat → Nat} {σ : AS} {a : Act} {w w' : World} {F : Fr} {U' : Nat → Nat} (h : Fits w0 U0 σ a w F) (hs : w0.heap.size ≤ w.heap.size) (hu : Up w F.U w' U') : Fits w0 U0 σ a w' { F with U := U' } :=
  ⟨fun b hb => (hu.u b (by omega)).trans (h.u b hb), fun t => (h.t t).ext hu.ext, fun m => (h.n m).ext hu.ext (fun b _ hlt => ⟨hu.h b hlt, hu.u b hlt⟩), h.i⟩
/-- an operand -/
def AS.ev (σ : AS) : Operand → AV
  | .tmp t => σ.t t
  | .const v => .d (.fl v)
  | .func f => .d (.fn f [])
  | _ => .un
theorem Fits.ev {w0 : World} {U0 : Nat → Nat} {σ : AS} {a : Act} {w : World} {F : Fr} (h : Fits w0 U0 σ a w F) (x : Operand) : Rav w F (σ.ev x) (a.eval x) := by
  cases x with
  | tmp t => exact h.t t
  | const v => exact Rd.fl v
  | global g => trivial
  | func f => exact Rd.fn f #[] [] rfl (fun j u x h => by simp at h)
/-- what an operation does to the state -/
structure Eff where
  tw : Option (Nat × AV)
  nw : List (Nat × Ob)
  rn : List Nat
  fr : List Nat
def AV.says : AV → Nat → Bool
  | .pt m _, k => m == k
  | .pe m _ _ _, k => m == k
  | .ow m, k => m == k
  | .pv m _, k => m == k
  | .pw m _, k => m == k
  | _, _ => false
def nwGet : List (Nat × Ob) → Nat → Option Ob
  | [], _ => none
  | (k, o) :: l, m => bif Nat.beq k m then some o else nwGet l m
def Eff.ap (e : Eff) (σ : AS) : AS where
  t := fun t => match e.tw with
    | some (d, v) => bif Nat.beq d t then v else σ.t t
    | none => σ.t t
  n := fun m => (nwGet e.nw m).getD (σ.n m)
def fresh (σ : AS) (m : Nat) : Prop := σ.n m = .no ∧ ∀ t, (σ.t t).says m = false
def tmpsOf (o : Oper) : List Tmp := o.op.operands.toList.filterMap fun | .tmp t => some t | _ => none
/-- a state at which the operation does the same -/
structure Eff.ok (e : Eff) (o : Oper) (σ σ' : AS) : Prop where
  t : ∀ t ∈ tmpsOf o, σ'.t t = σ.t t
  n : ∀ m ∈ e.rn, σ'.n m = σ.n m
  f : ∀ m ∈ e.fr, fresh σ' m
def OpS (P : Program) (N : Nat) (w0 : World) (U0 : Nat → Nat) (o : Oper) (σ : AS) (e : Eff) : Prop :=
  ∀ σ', e.ok o σ σ' → ∀ a w, St N w0 U0 σ' a w → ∀ K Q, (∀ a' w', St N w0 U0 (e.ap σ') a' w' → K a' w') → o.wp P a w K Q
theorem Eff.ok.refl {e : Eff} {o : Oper} {σ : AS} (h : ∀ m ∈ e.fr, fresh σ m) : e.ok o σ σ := ⟨fun _ _ => rfl, fun _ _ => rfl, h⟩
theorem ev_ok {e : Eff} {o : Oper} {σ σ' : AS} (h : e.ok o σ σ') {x : Operand} (hx : x ∈ o.op.operands) : σ'.ev x = σ.ev x := by
  cases x with
  | tmp t => exact h.t t (by unfold tmpsOf; rw [List.mem_filterMap]; exact ⟨_, by simpa using hx, rfl⟩)
  | _ => rfl
end Go.Proofs.Yteplcjhnmmpicaa.Av
