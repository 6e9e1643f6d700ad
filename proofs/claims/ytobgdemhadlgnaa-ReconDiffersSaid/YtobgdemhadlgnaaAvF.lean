/- A function that works in place on boxes of its caller's: by pointers among its arguments, or by what a function value has captured. Conditions: as each theorem names them. -/
import Derived.Test.YtobgdemhadlgnaaAvD
set_option linter.unusedSimpArgs false
set_option linter.unusedVariables false
namespace Go.Proofs.Ytobgdemhadlgnaa.Av
open Go Go.RowKit
def XA.is : XA → Nat → Bool
  | .p m, i => Nat.beq m i
  | .q m _, i => Nat.beq m i
  | _, _ => false
def boxB (o : Ob) : Bool := TK.p.ok o
def covB (as : List XA) (n : Nat) : Bool := (List.range n).all fun i => as.any fun a => a.is i
def xL (vv : Nat → Value) : List XA → Nat → List (Nat × AV)
  | [], _ => []
  | .d x :: as, i => (i, .d x) :: xL vv as (i + 1)
  | .p m :: as, i => (i, .pv m (vv i)) :: xL vv as (i + 1)
  | .q m x :: as, i => (i, .pv m x) :: xL vv as (i + 1)
def xM (pin : Ob) : List Ob → Nat → List (Nat × Ob)
  | [], i => [(i, pin)]
  | o :: os, i => (i, o) :: xM pin os (i + 1)
def kT (vv : Nat → Value) (σ : AS) : List XA → Nat → Prop
  | [], _ => True
  | .d _ :: as, i => kT vv σ as (i + 1)
  | .p m :: as, i => σ.t i = .pv m (vv i) ∧ kT vv σ as (i + 1)
  | .q m x :: as, i => σ.t i = .pv m x ∧ kT vv σ as (i + 1)
def kN (pin : Ob) (σ : AS) : List Ob → Nat → Prop
  | [], i => σ.n i = pin
  | o :: os, i => σ.n i = o ∧ kN pin σ os (i + 1)
theorem xL_get (vv : Nat → Value) : ∀ (as : List XA) (i t : Nat), lk (xL vv as i) t = if h : i ≤ t ∧ t - i < as.length then (match as[t - i] with | .d x => .d x | .p m => .pv m (vv t) | .q m x => .pv m x) else .un
  | [], i, t => by simp [xL, lk]
  | a :: as, i, t => by
    have ih := xL_get vv as (i + 1) t
    have key : lk (xL vv (a :: as) i) t = bif Nat.beq i t then (match a with | .d x => .d x | .p m => .pv m (vv i) | .q m x => .pv m x) else lk (xL vv as (i + 1)) t := by cases a <;> rfl
    rw [key]
    by_cases hit : i = t
    · subst hit
      rw [Nat.beq_refl, cond_true, dif_pos ⟨Nat.le_refl _, by simp⟩]
      simp
    · rw [nbeq hit, cond_false, ih]
      by_cases h : i + 1 ≤ t ∧ t - (i + 1) < as.length
      · have h' : i ≤ t ∧ t - i < (a :: as).length := ⟨by omega, by simp; omega⟩
        rw [dif_pos h, dif_pos h']
        obtain ⟨d, hd⟩ : ∃ d, t - i = d + 1 := ⟨t - (i + 1), by omega⟩
        have e : t - (i + 1) = d := by omega
        simp only [hd, e, List.getElem_cons_succ]
      · rw [dif_neg h, dif_neg (by simp; omega)]
theorem xM_get (pin : Ob) : ∀ (os : List Ob) (i m : Nat), ln (xM pin os i) m = if h : i ≤ m ∧ m - i < os.length then os[m - i] else if m = i + os.length then pin else .no
  | [], i, m => by
    show (bif Nat.beq i m then pin else .no) = _
    by_cases h : i = m
    · subst h; simp
    · rw [nbeq h]
      simp
      intro e; exact absurd e.symm h
  | o :: os, i, m => by
    have ih := xM_get pin os (i + 1) m
    show (bif Nat.beq i m then o else ln (xM pin os (i + 1)) m) = _
    by_cases hit : i = m
    · subst hit
      rw [Nat.beq_refl, cond_true, dif_pos ⟨Nat.le_refl _, by simp⟩]
      simp
    · rw [nbeq hit, cond_false, ih]
      by_cases h : i + 1 ≤ m ∧ m - (i + 1) < os.length
      · have h' : i ≤ m ∧ m - i < (o :: os).length := ⟨by omega, by simp; omega⟩
        rw [dif_pos h, dif_pos h']
        obtain ⟨d, hd⟩ : ∃ d, m - i = d + 1 := ⟨m - (i + 1), by omega⟩
        have e : m - (i + 1) = d := by omega
        simp only [hd, e, List.getElem_cons_succ]
      · rw [dif_neg h, dif_neg (by simp; omega)]
        have : m = i + 1 + os.length ↔ m = i + (o :: os).length := by simp; omega
        simp only [this]
theorem kT_q {vv : Nat → Value} {σ : AS} : ∀ {as : List XA} {i : Nat}, kT vv σ as i → ∀ j m x, as[j]? = some (.q m x) → σ.t (i + j) = .pv m x
  | [], _, _, j, m, y, h => by simp at h
  | .d x :: as, i, hk, j, m, y, h => by
    cases j with
    | zero => simp at h
    | succ j => have := kT_q (as := as) (i := i + 1) hk j m y (by simpa using h); rwa [show i + 1 + j = i + (j + 1) by omega] at this
  | .p q :: as, i, hk, j, m, y, h => by
    cases j with
    | zero => simp at h
    | succ j => have := kT_q (as := as) (i := i + 1) hk.2 j m y (by simpa using h); rwa [show i + 1 + j = i + (j + 1) by omega] at this
  | .q q x :: as, i, hk, j, m, y, h => by
    cases j with
    | zero => simp at h; obtain ⟨rfl, rfl⟩ := h; exact hk.1
    | succ j => have := kT_q (as := as) (i := i + 1) hk.2 j m y (by simpa using h); rwa [show i + 1 + j = i + (j + 1) by omega] at this
theorem kT_get {vv : Nat → Value} {σ : AS} : ∀ {as : List XA} {i : Nat}, kT vv σ as i → ∀ j m, as[j]? = some (.p m) → σ.t (i + j) = .pv m (vv (i + j))
  | [], _, _, j, m, h => by simp at h
  | .q q x :: as, i, hk, j, m, h => by
    cases j with
    | zero => simp at h
    | succ j => have := kT_get (as := as) (i := i + 1) hk.2 j m (by simpa using h); rwa [show i + 1 + j = i + (j + 1) by omega] at this
  | .d x :: as, i, hk, j, m, h => by
    cases j with
    | zero => simp at h
    | succ j => have := kT_get (as := as) (i := i + 1) hk j m (by simpa using h); rwa [show i + 1 + j = i + (j + 1) by omega] at this
  | .p q :: as, i, hk, j, m, h => by
    cases j with
    | zero => simp at h; subst h; exact hk.1
    | succ j => have := kT_get (as := as) (i := i + 1) hk.2 j m (by simpa using h); rwa [show i + 1 + j = i + (j + 1) by omega] at this
theorem kN_get {pin : Ob} {σ : AS} : ∀ {os : List Ob} {i : Nat}, kN pin σ os i → (∀ j o, os[j]? = some o → σ.n (i + j) = o) ∧ σ.n (i + os.length) = pin
  | [], i, h => ⟨fun j o hj => by simp at hj, h⟩
  | o :: os, i, h => by
    obtain ⟨g1, g2⟩ := kN_get (os := os) (i := i + 1) h.2
    refine ⟨fun j q hj => ?_, by rw [← g2]; congr 1; simp; omega⟩
    cases j with
    | zero => simp at hj; subst hj; exact h.1
    | succ j => have := g1 j q (by simpa using hj); rwa [show i + 1 + j = i + (j + 1) by omega] at this
/-- a function works on boxes of its caller's in place, and hands back data -/
def CtrX (P : Program) (f : FuncId) (as : List XA) (obs obs' : List Ob) (r : RV) : Prop :=
  ∀ (vals : List Value) (F : Fr) (w : World),
    vals.length = as.length → (∀ (j : Nat) (v : Value) (c : XA), vals[j]? = some v → as[j]? = some c → Rxa w F c v) →
    (∀ (i : Nat) (o : Ob), obs[i]? = some o → Rob 0 w F i o) →
    (∀ i i' b, i < obs.length → i' < obs.length → F.S i b → F.S i' b → i = i') →
    Calls P f vals.toArray w fun e w' => ∃ rv U' S', e = .returned rv ∧ Below 0 (bare w) w' ∧
      (∀ g, g < w.heap.size → (∀ i, i < obs.length → ¬ F.S i g) → w'.heap[g]? = w.heap[g]? ∧ U' g = F.U g) ∧
      (∀ i g, i < obs.length → S' i g → (∃ i', i' < obs.length ∧ F.S i' g) ∨ w.heap.size ≤ g) ∧
      (∀ i i' b, i < obs.length → i' < obs.length → S' i b → S' i' b → i = i') ∧
      (∀ (i : Nat) (o : Ob), obs'[i]? = some o → Rob 0 w' ⟨F.β, F.γ, U', S'⟩ i o) ∧ Rres w' U' rv r
section
variable {P : Program} {N : Nat} {w0 : World} {U0 : Nat → Nat}
def retX (P : Program) (rs : Array ResultVar) (vv : Nat → Value) (as : List XA) (obs' : List Ob) (pin : Ob) (r : RV) : Exit → AS → Prop
  | .normal, σ | .ret, σ => (∃ ds, ResL P σ rs.toList ds ∧ RV.of ds = r) ∧ kT vv σ as 0 ∧ kN pin σ obs' 0
  | _, _ => False
theorem box_live {o : Ob} (h : boxB o = true) : o.live = true := by cases o <;> simp [boxB, TK.ok] at h <;> rfl
theorem ctrX {f : FuncId} {fn : Func} {c : Code} {as : List XA} {obs obs' : List Ob} {r : RV} {n : Nat} {rs : Array ResultVar} (hf : P.funcs[f]? = some fn) (hb : fn.body = some c) (hn : fn.ntmps = n) (hr : fn.results = rs) (hl : Nat.ble as.length n = true)
    (hk : obs.all boxB = true) (hk' : obs'.all boxB = true) (hle : Nat.beq obs'.length obs.length = true) (hcov : covB as obs.length = true) 
    (h : ∀ w0 U0 vv H V Q, A P n w0 U0 c (retX P rs vv as obs' (.pin H V Q) r) (SS (xL vv as 0) (xM (.pin H V Q) obs 0))) : CtrX P f as obs obs' r := by
  subst hn
  subst hr
  intro vals F0 w hlen hv hob hdis
  have hle' := Nat.le_of_ble_eq_true hl
  have hlo : obs'.length = obs.length := Nat.eq_of_beq_eq_true hle
  have hsz : (vals.toArray ++ Array.replicate (fn.ntmps - vals.toArray.size) undef).size = fn.ntmps := by simp; omega
  let vv : Nat → Value := fun i => vals.getD i undef
  let F : Fr := ⟨F0.β, F0.γ, F0.U, fun j g => if j < obs.length then F0.S j g else (g < w.heap.size ∧ ∀ i, i < obs.length → ¬ F0.S i g)⟩
  let Q : Nat → Prop := fun g => g < w.heap.size ∧ ∀ i, i < obs.length → ¬ F0.S i g
  have hget : ∀ t, t < vals.length → (vals.toArray ++ Array.replicate (fn.ntmps - vals.toArray.size) undef).getD t undef = vals.getD t undef := by
    intro t ht
    rw [Array.getD_eq_getD_getElem?, Array.getElem?_append_left (by simpa using ht)]
    simp
  have hn0 : ∀ m, (SS (xL vv as 0) (xM (.pin w F0.U Q) obs 0)).n m = if h : m < obs.length then obs[m] else if m = obs.length then .pin w F0.U Q else .no := by
    intro m
    show ln (xM (.pin w F0.U Q) obs 0) m = _
    rw [xM_get]
    simp only [Nat.zero_le, true_and, Nat.sub_zero, Nat.zero_add]
  have hfit : Fits (bare w) F0.U (SS (xL vv as 0) (xM (.pin w F0.U Q) obs 0)) ⟨vals.toArray ++ Array.replicate (fn.ntmps - vals.toArray.size) undef, []⟩ w F := by
    refine ⟨fun b hb => rfl, fun t => ?_, fun m => ?_, fun m m' b h1 h2 h3 h4 => ?_⟩
    · show Rav w F (lk (xL vv as 0) t) _
      rw [xL_get]
      by_cases ht : t < as.length
      · rw [dif_pos ⟨Nat.zero_le _, by simpa using ht⟩]
        simp only [Nat.sub_zero]
        rw [hget t (by omega)]
        have hvt : vals[t]? = some (vals.getD t undef) := by
          rw [List.getD_eq_getElem?_getD, List.getElem?_eq_getElem (show t < vals.length by omega)]; rfl
        have hR := hv t _ _ hvt (List.getElem?_eq_getElem ht)
        revert hR
        cases as[t] with
        | d x => exact fun hR => hR
        | p m => exact fun hR => ⟨rfl, hR⟩
        | q m x => exact fun hR => hR
      · rw [dif_neg (by simp; omega)]; trivial
    · rw [hn0]
      by_cases hm : m < obs.length
      · rw [dif_pos hm]
        have hkm : TK.p.ok obs[m] = true := List.all_eq_true.1 hk _ (List.getElem_mem hm)
        exact (hob m _ (List.getElem?_eq_getElem hm)).move (k := .p) hkm (fun _ => rfl) (fun h => by cases h) (fun b => by show (if m < obs.length then F0.S m b else _) ↔ _; rw [if_pos hm]) rfl
      · rw [dif_neg hm]
        by_cases hm2 : m = obs.length
        · rw [if_pos hm2]
          exact ⟨fun b => by show (if m < obs.length then _ else _) ↔ _; rw [if_neg hm], fun b hq => ⟨Nat.zero_le _, hq.1, rfl, rfl⟩⟩
        · rw [if_neg hm2]; trivial
    · have key : ∀ m, ((SS (xL vv as 0) (xM (.pin w F0.U Q) obs 0)).n m).live = true → m ≤ obs.length := by
        intro m hm
        rw [hn0] at hm
        by_cases hm1 : m < obs.length
        · omega
        · rw [dif_neg hm1] at hm
          by_cases hm2 : m = obs.length
          · omega
          · rw [if_neg hm2] at hm; cases hm
      have k1 := key m h1
      have k2 := key m' h2
      have h3' : (if m < obs.length then F0.S m b else (b < w.heap.size ∧ ∀ i, i < obs.length → ¬ F0.S i b)) := h3
      have h4' : (if m' < obs.length then F0.S m' b else (b < w.heap.size ∧ ∀ i, i < obs.length → ¬ F0.S i b)) := h4
      by_cases g1 : m < obs.length <;> by_cases g2 : m' < obs.length
      · rw [if_pos g1] at h3'; rw [if_pos g2] at h4'; exact hdis m m' b g1 g2 h3' h4'
      · rw [if_pos g1] at h3'; rw [if_neg g2] at h4'; exact absurd h3' (h4'.2 m g1)
      · rw [if_neg g1] at h3'; rw [if_pos g2] at h4'; exact absurd h4' (h3'.2 m' g2)
      · omega
  refine calls_of_wp hf hb ((h (bare w) F0.U vv w F0.U Q).go _ w ⟨rfl, hsz, ⟨rfl, rfl, rfl, Nat.zero_le _, fun k hk => by have : k < 0 := hk; omega⟩, F, hfit⟩ _ (fun e σ' a' w' hr hs' => ?_))
  have key : ((∃ ds, ResL P σ' fn.results.toList ds ∧ RV.of ds = r) ∧ kT vv σ' as 0 ∧ kN (.pin w F0.U Q) σ' obs' 0) → a'.defers = [] ∧ ∃ x, (results fn a'.tmps).run P w' = .ok x w' ∧ ∃ rv U' S', Ending.returned x = .returned rv ∧ Below 0 (bare w) w' ∧
      (∀ g, g < w.heap.size → (∀ i, i < obs.length → ¬ F0.S i g) → w'.heap[g]? = w.heap[g]? ∧ U' g = F0.U g) ∧
      (∀ i g, i < obs.length → S' i g → (∃ i', i' < obs.length ∧ F0.S i' g) ∨ w.heap.size ≤ g) ∧
      (∀ i i' b, i < obs.length → i' < obs.length → S' i b → S' i' b → i = i') ∧
      (∀ (i : Nat) (o : Ob), obs'[i]? = some o → Rob 0 w' ⟨F0.β, F0.γ, U', S'⟩ i o) ∧ Rres w' U' rv r := by
    rintro ⟨⟨ds, hL, hrr⟩, ht0, hnn⟩
    obtain ⟨F', hF⟩ := hs'.f
    obtain ⟨hN1, hN2⟩ := kN_get hnn
    obtain ⟨vs, h1, h2⟩ := hL.run hF
    have hm : (fn.results.mapM (resVal a')).run P w' = .ok vs.toArray w' := by
      rw [Array.mapM_eq_mapM_toList]
      simp [h1]
    have hn1 : σ'.n obs.length = .pin w F0.U Q := by rw [← hlo]; simpa using hN2
    have hp := hF.n obs.length
    rw [hn1] at hp
    obtain ⟨hp1, hp2⟩ := hp
    have hni : ∀ i, (hi : i < obs.length) → σ'.n i = obs'[i]'(by omega) := fun i hi => by
      have := hN1 i _ (List.getElem?_eq_getElem (show i < obs'.length by omega))
      simpa using this
    have hlive : ∀ i, i < obs.length → (σ'.n i).live = true := fun i hi => by
      rw [hni i hi]; exact box_live (List.all_eq_true.1 hk' _ (List.getElem_mem _))
    have hl1 : (σ'.n obs.length).live = true := by rw [hn1]; rfl
    have hβ : ∀ i, i < obs.length → F'.β i = F0.β i := by
      intro i hi
      have hc := List.all_eq_true.1 hcov i (by simpa using hi)
      obtain ⟨c, hc1, hc2⟩ := List.any_eq_true.1 hc
      cases c with
      | d x => cases hc2
      | p q =>
        have hq : q = i := Nat.eq_of_beq_eq_true hc2
        subst hq
        obtain ⟨j, hj1, hj2⟩ := List.getElem_of_mem hc1
        have hj3 : as[j]? = some (.p q) := by rw [List.getElem?_eq_getElem hj1, hj2]
        have e1 := kT_get ht0 j q hj3
        rw [Nat.zero_add] at e1
        have e2 := hF.t j
        rw [e1] at e2
        obtain ⟨e3, b', e4, e5⟩ := e2
        have hvt : vals[j]? = some (vv j) := by
          show vals[j]? = some (vals.getD j undef)
          rw [List.getD_eq_getElem?_getD, List.getElem?_eq_getElem (show j < vals.length by omega)]; rfl
        obtain ⟨b, e6, e7⟩ := hv j _ _ hvt hj3
        rw [e4, e6]
        rw [e7] at e5
        injection e5 with e5
        injection e5 with e5
        injection e5 with e5
        rw [e5]
      | q q x =>
        have hq : q = i := Nat.eq_of_beq_eq_true hc2
        subst hq
        obtain ⟨j, hj1, hj2⟩ := List.getElem_of_mem hc1
        have hj3 : as[j]? = some (.q q x) := by rw [List.getElem?_eq_getElem hj1, hj2]
        have e1 := kT_q ht0 j q x hj3
        rw [Nat.zero_add] at e1
        have e2 := hF.t j
        rw [e1] at e2
        obtain ⟨e3, b', e4, e5⟩ := e2
        have hvt : vals[j]? = some (vv j) := by
          show vals[j]? = some (vals.getD j undef)
          rw [List.getD_eq_getElem?_getD, List.getElem?_eq_getElem (show j < vals.length by omega)]; rfl
        obtain ⟨_, b, e6, e7⟩ := hv j _ _ hvt hj3
        rw [e4, e6]
        rw [e7] at e5
        injection e5 with e5
        injection e5 with e5
        injection e5 with e5
        rw [e5]
    refine ⟨hs'.d, if hh : vs.toArray.size = 1 then vs.toArray[0] else .tuple vs.toArray, ?_, _, F'.U, F'.S, rfl, hs'.b, fun g hg hS => ?_, fun i g hi hg => ?_, fun i i' b hi hi' hb1 hb2 => ?_, fun i o hi => ?_, ?_⟩
    · have hres : results fn a'.tmps = (fn.results.mapM (resVal a') >>= fun vs => pure (if h : vs.size = 1 then vs[0] else .tuple vs)) := rfl
      rw [hres, Sem.run_bind, hm]
      rfl
    · obtain ⟨_, _, g3, g4⟩ := hp2 g ⟨hg, hS⟩
      exact ⟨g3, g4⟩
    · by_cases hS : ∃ i', i' < obs.length ∧ F0.S i' g
      · exact .inl hS
      · by_cases hlt : g < w.heap.size
        · have := hF.i i obs.length g (hlive i hi) hl1 hg ((hp1 g).2 ⟨hlt, fun i' hi' hS' => hS ⟨i', hi', hS'⟩⟩)
          omega
        · exact .inr (by omega)
    · exact hF.i i i' b (hlive i hi) (hlive i' hi') hb1 hb2
    · have hi1 : i < obs'.length := (List.getElem?_eq_some_iff.1 hi).1
      have hi2 : i < obs.length := by omega
      have ho : Rob 0 w' F' i o := by
        have := hF.n i
        rw [hni i hi2] at this
        rwa [(List.getElem?_eq_some_iff.1 hi).2] at this
      exact ho.move (k := .p) (List.all_eq_true.1 hk' _ (List.mem_of_getElem? hi)) (fun _ => (hβ i hi2).symm) (fun h => by cases h) (fun b => Iff.rfl) rfl
    · subst hrr
      have hl := h2.1
      match vs, ds, hl, h2 with
      | [], [], _, h2 => exact ⟨_, rfl, h2⟩
      | [v], [d], _, h2 => exact h2.2 0 v d rfl rfl
      | v :: v2 :: vs, d :: d2 :: ds, _, h2 =>
        have : ¬ ((v :: v2 :: vs).toArray.size = 1) := by simp
        rw [dif_neg this]
        exact ⟨_, rfl, h2⟩
  cases e with
  | normal => exact key hr
  | ret => exact key hr
  | _ => exact hr.elim
theorem zip_get : ∀ {ms : List Nat} {os : List Ob} {j : Nat} {o : Ob}, nwGet (ms.zip os) j = some o → ∃ i : Nat, ms[i]? = some j ∧ os[i]? = some o
  | [], _, _, _, h => by simp [nwGet] at h
  | _ :: _, [], _, _, h => by simp [nwGet] at h
  | m :: ms, q :: os, j, o, h => by
    have h' : (bif Nat.beq m j then some q else nwGet (ms.zip os) j) = some o := h
    cases hb : Nat.beq m j with
    | true =>
      rw [hb] at h'
      have e := Nat.eq_of_beq_eq_true hb
      subst e
      exact ⟨0, rfl, h'⟩
    | false =>
      rw [hb] at h'
      obtain ⟨i, h1, h2⟩ := zip_get (ms := ms) (os := os) h'
      exact ⟨i + 1, by simpa using h1, by simpa using h2⟩
theorem zip_none : ∀ {ms : List Nat} {os : List Ob} {j : Nat}, ms.length = os.length → nwGet (ms.zip os) j = none → j ∉ ms
  | [], _, _, _, _ => by simp
  | m :: ms, [], _, hl, _ => by simp at hl
  | m :: ms, q :: os, j, hl, h => by
    have h' : (bif Nat.beq m j then some q else nwGet (ms.zip os) j) = none := h
    cases hb : Nat.beq m j with
    | true => rw [hb] at h'; cases h'
    | false =>
      rw [hb] at h'
      have ih := zip_none (ms := ms) (os := os) (by simpa using hl) h'
      intro hm
      rcases List.mem_cons.1 hm with e | e
      · rw [e, Nat.beq_refl] at hb; cases hb
      · exact ih e
theorem nd_get {ms : List Nat} (h : ms.Nodup) {i i' m : Nat} (h1 : ms[i]? = some m) (h2 : ms[i']? = some m) : i = i' := by
  obtain ⟨g1, g2⟩ := List.getElem?_eq_some_iff.1 h1
  obtain ⟨g3, g4⟩ := List.getElem?_eq_some_iff.1 h2
  exact (List.getElem_inj h).1 (g2.trans g4.symm)
def clF (F : Fr) (ms : List Nat) (U' : Nat → Nat) (S' : Nat → Nat → Prop) : Fr := ⟨fun i => F.β (ms.getD i 0), fun i => F.γ (ms.getD i 0), U', S'⟩
theorem callX_fit {o : Oper} {σ : AS} {a : Act} {w w' : World} {F : Fr} (ms : List Nat) {obs obs' : List Ob} (hs : St N w0 U0 σ a w) (hF : Fits w0 U0 σ a w F) (hnd : ms.Nodup) (hl : ms.length = obs.length) (hl' : obs'.length = obs.length)
    (hm : ∀ (i m : Nat) (o : Ob), ms[i]? = some m → obs[i]? = some o → σ.n m = o) (hk : obs.all boxB = true) (hk' : obs'.all boxB = true) (hd : dOk o N = true) {rv : Value} {U' : Nat → Nat} {S' : Nat → Nat → Prop} {r : RV}
    (h1 : Below 0 (bare w) w') (h2 : ∀ g, g < w.heap.size → (∀ i, i < obs.length → ¬ F.S (ms.getD i 0) g) → w'.heap[g]? = w.heap[g]? ∧ U' g = F.U g)
    (h3 : ∀ i g, i < obs.length → S' i g → (∃ i', i' < obs.length ∧ F.S (ms.getD i' 0) g) ∨ w.heap.size ≤ g) (h3' : ∀ i i' b, i < obs.length → i' < obs.length → S' i b → S' i' b → i = i')
    (h4 : ∀ (i : Nat) (o : Ob), obs'[i]? = some o → Rob 0 w' (clF F ms U' S') i o) (h5 : Rres w' U' rv r) (rns : List Nat) :
    St N w0 U0 ((⟨o.dst.map fun d => (d, r.av), ms.zip obs', rns, []⟩ : Eff).ap σ) (a.put o.dst rv) w' := by
  have hB := hs.b.size
  have hgd : ∀ i m, ms[i]? = some m → ms.getD i 0 = m := fun i m h => by rw [List.getD_eq_getElem?_getD, h]; rfl
  have hin : ∀ i, (hi : i < obs.length) → ms[i]? = some (ms.getD i 0) := fun i hi => by rw [List.getD_eq_getElem?_getD, List.getElem?_eq_getElem (show i < ms.length by omega)]; rfl
  have hob : ∀ i, (hi : i < obs.length) → Rob w0.heap.size w F (ms.getD i 0) obs[i] ∧ (σ.n (ms.getD i 0)).live = true ∧ boxB obs[i] = true := fun i hi => by
    have e := hm i _ _ (hin i hi) (List.getElem?_eq_getElem hi)
    have hb : boxB obs[i] = true := List.all_eq_true.1 hk _ (List.getElem_mem hi)
    refine ⟨by have := hF.n (ms.getD i 0); rwa [e] at this, by rw [e]; exact box_live hb, hb⟩
  have hSB : ∀ i, i < obs.length → ∀ b, F.S (ms.getD i 0) b → w0.heap.size ≤ b ∧ b < w.heap.size ∧ F.U b = 0 := fun i hi b hb => by
    obtain ⟨g1, g2, g3⟩ := hob i hi
    have := g1.lt (box_live g3) hb
    exact ⟨this.1, this.2, g1.zero (k := .p) g3 hb⟩
  have hE : Ext w F.U w' U' := by
    refine ⟨fun b o u hc ho => ?_, fun q es c hq hu => ?_⟩
    · have hlt := World.block_lt_of_cell? w _ hc
      obtain ⟨g1, g2⟩ := h2 b hlt (fun i hi hb => by have := (hSB i hi b hb).2.2; omega)
      exact ⟨(World.cell?_of_block g1).trans hc, by rw [g2]; exact ho⟩
    · have hlt : q < w.heap.size := (Array.getElem?_eq_some_iff.1 hq).1
      exact h2 q hlt (fun i hi hb => by have := (hSB i hi q hb).2.2; omega)
  have hold : ∀ b, b < w0.heap.size → w'.heap[b]? = w.heap[b]? ∧ U' b = F.U b := fun b hb => h2 b (by omega) (fun i hi hS => by have := (hSB i hi b hS).1; omega)
  have hsz : w0.heap.size ≤ w'.heap.size := by
    rcases Nat.eq_zero_or_pos w0.heap.size with hz | hz
    · omega
    · have h6 := (hold (w0.heap.size - 1) (by omega)).1
      rw [Array.getElem?_eq_getElem (show w0.heap.size - 1 < w.heap.size by omega)] at h6
      have := (Array.getElem?_eq_some_iff.1 h6).1
      omega
  let F' : Fr := ⟨F.β, F.γ, U', fun j g => if j ∈ ms then (∃ i : Nat, ms[i]? = some j ∧ S' i g) else F.S j g⟩
  have hlz : ms.length = obs'.length := by omega
  have hnone : ∀ j, nwGet (ms.zip obs') j = none → j ∉ ms := fun j hj => zip_none hlz hj
  have hFS : ∀ j b (o' : Ob), nwGet (ms.zip obs') j = some o' → F'.S j b → ∃ i : Nat, ms[i]? = some j ∧ i < obs.length ∧ S' i b := fun j b o' hj hb => by
    obtain ⟨i, g1, g2⟩ := zip_get hj
    have hb' : (if j ∈ ms then (∃ i : Nat, ms[i]? = some j ∧ S' i b) else F.S j b) := hb
    rw [if_pos (List.mem_of_getElem? g1)] at hb'
    obtain ⟨i', g3, g4⟩ := hb'
    exact ⟨i', g3, by have := (List.getElem?_eq_some_iff.1 g3).1; omega, g4⟩
  have hfit : Fits w0 U0 ((⟨o.dst.map fun d => (d, r.av), ms.zip obs', rns, []⟩ : Eff).ap σ) (a.put o.dst rv) w' F' := by
    refine hF.big (F' := F') hE (fun b hb => (hold b hb).2) (fun j hj => ?_) (fun j hj => .inl ⟨rfl, rfl⟩) (fun j hl hj b hb hlt => ?_) (fun j o' hj => ?_) (fun j o' j' b hj hl hjj hl' hb hb' => ?_) (fun j o' j' o'' b hj hl hjj hl' hb hb' => ?_) (hta_put hd hs.s r.av rv).1 (fun d v' h => ?_) rns []
    · exact ⟨rfl, rfl, fun b => by show (if j ∈ ms then _ else _) ↔ _; rw [if_neg (hnone j hj)]⟩
    · refine h2 b hlt (fun i hi hS => ?_)
      have := hF.i j (ms.getD i 0) b hl (hob i hi).2.1 hb hS
      exact hnone j hj (this ▸ List.mem_of_getElem? (hin i hi))
    · obtain ⟨i, g1, g2⟩ := zip_get hj
      have hbo : TK.p.ok o' = true := List.all_eq_true.1 hk' _ (List.mem_of_getElem? g2)
      have hi : i < obs.length := by have := (List.getElem?_eq_some_iff.1 g2).1; omega
      refine Rob.rebase (k := .p) hbo ((h4 i o' g2).move (k := .p) hbo (fun _ => ?_) (fun h => by cases h) (fun b => ?_) rfl) (fun b hb => ?_)
      · show F.β j = F.β (ms.getD i 0)
        rw [hgd i j g1]
      · show (if j ∈ ms then (∃ i : Nat, ms[i]? = some j ∧ S' i b) else F.S j b) ↔ S' i b
        rw [if_pos (List.mem_of_getElem? g1)]
        exact ⟨fun ⟨i', g3, g4⟩ => nd_get hnd g3 g1 ▸ g4, fun g4 => ⟨i, g1, g4⟩⟩
      · obtain ⟨i', g3, g4, g5⟩ := hFS j b o' hj hb
        rcases h3 i' b g4 g5 with ⟨i2, g6, g7⟩ | g6
        · exact (hSB i2 g6 b g7).1
        · omega
    · obtain ⟨i, g1, g2, g3⟩ := hFS j b o' hj hb
      rcases h3 i b g2 g3 with ⟨i2, g6, g7⟩ | g6
      · have := hF.i j' (ms.getD i2 0) b hl' (hob i2 g6).2.1 hb' g7
        exact hnone j' hjj (this ▸ List.mem_of_getElem? (hin i2 g6))
      · have := ((hF.n j').lt hl' hb').2; omega
    · obtain ⟨i, g1, g2, g3⟩ := hFS j b o' hj hb
      obtain ⟨i', g4, g5, g6⟩ := hFS j' b o'' hjj hb'
      have e := h3' i i' b g2 g5 g3 g6
      subst e
      rw [g1] at g4
      exact Option.some.inj g4
    · obtain ⟨rfl, h3⟩ := (hta_put hd hs.s r.av rv).2 d v' h
      rw [h3]
      exact Rres.av (F := F') h5
  exact ⟨by rw [put_defers]; exact hs.d, by rw [put_size]; exact hs.s, ⟨h1.os.trans hs.b.os, h1.tape.trans hs.b.tape, h1.output.trans hs.b.output, hsz, fun b hb => (hold b hb).1.trans (hs.b.block b hb)⟩, _, hfit⟩
/-- the arguments of a call: data, or the pointer to one of the boxes ms -/
inductive XS (σ : AS) (ms : List Nat) : List Operand → List XA → List Nat → Prop
  | nil : XS σ ms [] [] []
  | d {x : Operand} {xs : List Operand} {d : DV} {as : List XA} {rn rns : List Nat} {v : AV} (hv : σ.ev x = v) (h : AvD σ v d rn) (hs : XS σ ms xs as rns) : XS σ ms (x :: xs) (.d d :: as) (rn ++ rns)
  | p {x : Operand} {xs : List Operand} {as : List XA} {rns : List Nat} {m : Nat} (i : Nat) (hv : σ.ev x = .pt m 0) (hm : ms[i]? = some m) (hs : XS σ ms xs as rns) : XS σ ms (x :: xs) (.p i :: as) rns
  | v {x : Operand} {xs : List Operand} {as : List XA} {rns : List Nat} {m : Nat} {u : Value} (i : Nat) (hv : σ.ev x = .pv m u) (hm : ms[i]? = some m) (hs : XS σ ms xs as rns) : XS σ ms (x :: xs) (.p i :: as) rns
  | q {x : Operand} {xs : List Operand} {as : List XA} {rns : List Nat} {m : Nat} {u : Value} (i : Nat) (hv : σ.ev x = .pv m u) (hm : ms[i]? = some m) (hs : XS σ ms xs as rns) : XS σ ms (x :: xs) (.q i u :: as) rns
inductive XC (ms : List Nat) : List XA → List XA → Prop
  | nil : XC ms [] []
  | d {x : DV} {cs as : List XA} (hs : XC ms cs as) : XC ms (.d x :: cs) (.d x :: as)
  | p {m : Nat} {cs as : List XA} (i : Nat) (hm : ms[i]? = some m) (hs : XC ms cs as) : XC ms (.p m :: cs) (.p i :: as)
def Rxs (w : World) (F : Fr) (vs : List Value) (as : List XA) : Prop := vs.length = as.length ∧ ∀ (j : Nat) (v : Value) (c : XA), vs[j]? = some v → as[j]? = some c → Rxa w F c v
theorem Rxs.cons {w : World} {F : Fr} {v : Value} {vs : List Value} {c : XA} {cs : List XA} (h : Rxa w F c v) (hs : Rxs w F vs cs) : Rxs w F (v :: vs) (c :: cs) := by
  refine ⟨by simp [hs.1], fun j u x h1 h2 => ?_⟩
  cases j with
  | zero => simp at h1 h2; subst h1 h2; exact h
  | succ j => simp at h1 h2; exact hs.2 j u x h1 h2
theorem Rxs.append {w : World} {F : Fr} {vs us : List Value} {cs ds : List XA} (h : Rxs w F vs cs) (k : Rxs w F us ds) : Rxs w F (vs ++ us) (cs ++ ds) := by
  refine ⟨by simp [h.1, k.1], fun j u x h1 h2 => ?_⟩
  have hl := h.1
  rcases Nat.lt_or_ge j vs.length with hj | hj
  · rw [List.getElem?_append_left hj] at h1
    rw [List.getElem?_append_left (by omega)] at h2
    exact h.2 j u x h1 h2
  · rw [List.getElem?_append_right hj] at h1
    rw [List.getElem?_append_right (by omega), ← hl] at h2
    exact k.2 _ u x h1 h2
theorem XS.get {σ σ' : AS} {ms : List Nat} {a : Act} {w : World} {F : Fr} {U' : Nat → Nat} {S' : Nat → Nat → Prop} (hF : Fits w0 U0 σ' a w F) (hU : U' = F.U) {xs : List Operand} {as : List XA} {rns : List Nat} (h : XS σ ms xs as rns) (hrn : ∀ m ∈ rns, σ'.n m = σ.n m) (hev : ∀ x ∈ xs, σ'.ev x = σ.ev x) : Rxs w (clF F ms U' S') (xs.map a.eval) as := by
  subst hU
  induction h with
  | nil => exact ⟨rfl, fun j u c h => by simp at h⟩
  | @d x xs d as rn rns v hv h hs ih =>
    refine Rxs.cons ?_ (ih (fun m hm => hrn m (List.mem_append.2 (.inr hm))) (fun y hy => hev y (by simp [hy])))
    have := hF.ev x
    rw [hev x (by simp), hv] at this
    exact h.get hF (fun m hm => hrn m (List.mem_append.2 (.inl hm))) this
  | @p x xs as rns m i hv hm hs ih =>
    refine Rxs.cons ?_ (ih hrn (fun y hy => hev y (by simp [hy])))
    have := hF.ev x
    rw [hev x (by simp), hv] at this
    obtain ⟨b, h1, h2⟩ := this
    exact ⟨b, by show F.β (ms.getD i 0) = some b; rw [List.getD_eq_getElem?_getD, hm]; exact h1, h2⟩
  | @v x xs as rns m u i hv hm hs ih =>
    refine Rxs.cons ?_ (ih hrn (fun y hy => hev y (by simp [hy])))
    have := hF.ev x
    rw [hev x (by simp), hv] at this
    obtain ⟨e, b, h1, h2⟩ := this
    exact ⟨b, by show F.β (ms.getD i 0) = some b; rw [List.getD_eq_getElem?_getD, hm]; exact h1, e.trans h2⟩
  | @q x xs as rns m u i hv hm hs ih =>
    refine Rxs.cons ?_ (ih hrn (fun y hy => hev y (by simp [hy])))
    have := hF.ev x
    rw [hev x (by simp), hv] at this
    obtain ⟨e, b, h1, h2⟩ := this
    exact ⟨e, b, by show F.β (ms.getD i 0) = some b; rw [List.getD_eq_getElem?_getD, hm]; exact h1, h2⟩
theorem XC.get {ms : List Nat} {w : World} {F : Fr} {U' : Nat → Nat} {S' : Nat → Nat → Prop} (hU : U' = F.U) {cs as : List XA} (h : XC ms cs as) : ∀ {vs : List Value}, Rxs w F vs cs → Rxs w (clF F ms U' S') vs as := by
  subst hU
  induction h with
  | nil => intro vs h; exact ⟨h.1, fun j u c _ h2 => by simp at h2⟩
  | @d x cs as hs ih =>
    intro vs h
    cases vs with
    | nil => have := h.1; simp at this
    | cons v vs =>
      exact Rxs.cons (h.2 0 v (.d x) rfl rfl) (ih ⟨by have := h.1; simpa using this, fun j u c h1 h2 => h.2 (j + 1) u c (by simpa using h1) (by simpa using h2)⟩)
  | @p m cs as i hm hs ih =>
    intro vs h
    cases vs with
    | nil => have := h.1; simp at this
    | cons v vs =>
      refine Rxs.cons ?_ (ih ⟨by have := h.1; simpa using this, fun j u c h1 h2 => h.2 (j + 1) u c (by simpa using h1) (by simpa using h2)⟩)
      obtain ⟨b, h1, h2⟩ := h.2 0 v (.p m) rfl rfl
      exact ⟨b, by show F.β (ms.getD i 0) = some b; rw [List.getD_eq_getElem?_getD, hm]; exact h1, h2⟩
def ndB : List Nat → Bool
  | [] => true
  | m :: ms => (ms.all fun k => !(Nat.beq m k)) && ndB ms
theorem nd_of : ∀ {ms : List Nat}, ndB ms = true → ms.Nodup
  | [], _ => List.nodup_nil
  | m :: ms, h => by
    simp only [ndB, Bool.and_eq_true] at h
    refine List.nodup_cons.2 ⟨fun hm => ?_, nd_of h.2⟩
    have := List.all_eq_true.1 h.1 m hm
    rw [Nat.beq_refl] at this; cases this
/-- what the boxes hold -/
def obsAt (σ : AS) : List Nat → List Ob → Prop
  | [], [] => True
  | m :: ms, o :: os => σ.n m = o ∧ obsAt σ ms os
  | _, _ => False
theorem obsAt_get {σ : AS} : ∀ {ms : List Nat} {os : List Ob}, obsAt σ ms os → ms.length = os.length ∧ ∀ (i m : Nat) (o : Ob), ms[i]? = some m → os[i]? = some o → σ.n m = o
  | [], [], _ => ⟨rfl, fun i m o h => by simp at h⟩
  | m :: ms, o :: os, h => by
    obtain ⟨g1, g2⟩ := obsAt_get (ms := ms) (os := os) h.2
    refine ⟨by simp [g1], fun i k q h1 h2 => ?_⟩
    cases i with
    | zero => simp at h1 h2; subst h1 h2; exact h.1
    | succ i => exact g2 i k q (by simpa using h1) (by simpa using h2)
  | [], _ :: _, h => h.elim
  | _ :: _, [], h => h.elim
theorem callX {o : Oper} {σ : AS} {f : FuncId} {fo : Operand} {args : Array Operand} {ats : Array TypeId} (ms : List Nat) {obs obs' : List Ob} (ho : o.op = .call { callee := .value fo, args := args, argTypes := ats }) (hg : FnOk P f) {caps : List XA}
    (hfo : ∀ (σ' : AS) (a : Act) (w : World) (F : Fr), (∀ x ∈ o.op.operands, σ'.ev x = σ.ev x) → Fits w0 U0 σ' a w F → ∃ vs : Array Value, a.eval fo = .func (.func f) #[] vs ∧ Rxs w F vs.toList caps)
    {as cs : List XA} {rns : List Nat} (hx : XS σ ms args.toList as rns) (hcs : XC ms caps cs) (hnd : ndB ms = true) (hm : obsAt σ ms obs) (hle : Nat.beq obs'.length obs.length = true) (hk : obs.all boxB = true) (hk' : obs'.all boxB = true) {r : RV} (hc : CtrX P f (as ++ cs) obs obs' r) (hd : dOk o N = true) :
    OpS P N w0 U0 o σ ⟨o.dst.map fun d => (d, r.av), ms.zip obs', ms ++ rns, []⟩ := by
  obtain ⟨fn, hf, hn, hb⟩ := hg
  obtain ⟨hl, hm⟩ := obsAt_get hm
  intro σ' hok a w hs K Q hK
  obtain ⟨F, hF⟩ := hs.f
  obtain ⟨vs, hv, hvs⟩ := hfo σ' a w F (fun x hx => ev_ok hok hx) hF
  have hR := (hx.get (U' := F.U) (S' := fun i => F.S (ms.getD i 0)) hF rfl (fun m hm => hok.n m (by simp [hm])) (fun x hx => ev_ok hok (by simp [ho, Op.operands, Call.operands]; exact .inr (by simpa using hx)))).append (hcs.get (U' := F.U) (S' := fun i => F.S (ms.getD i 0)) rfl hvs)
  have hm' : ∀ (i m : Nat) (o : Ob), ms[i]? = some m → obs[i]? = some o → σ'.n m = o := fun i m q h1 h2 => (hok.n m (by simp [List.mem_of_getElem? h1])).trans (hm i m q h1 h2)
  have hin : ∀ i, (hi : i < obs.length) → ms[i]? = some (ms.getD i 0) := fun i hi => by rw [List.getD_eq_getElem?_getD, List.getElem?_eq_getElem (show i < ms.length by omega)]; rfl
  have hlv : ∀ i, (hi : i < obs.length) → (σ'.n (ms.getD i 0)).live = true := fun i hi => by
    rw [hm' i _ _ (hin i hi) (List.getElem?_eq_getElem hi)]; exact box_live (List.all_eq_true.1 hk _ (List.getElem_mem hi))
  have hcall := hc _ (clF F ms F.U (fun i => F.S (ms.getD i 0))) w hR.1 hR.2 (fun i q hi => by
      have hi1 := (List.getElem?_eq_some_iff.1 hi).1
      have hbo : TK.p.ok q = true := List.all_eq_true.1 hk _ (List.mem_of_getElem? hi)
      have := hF.n (ms.getD i 0)
      rw [hm' i _ _ (hin i hi1) hi] at this
      exact (Rob.debase (k := .p) hbo this).move (k := .p) hbo (fun _ => rfl) (fun h => by cases h) (fun b => Iff.rfl) rfl)
    (fun i i' b hi hi' h1 h2 => nd_get (nd_of hnd) ((hin i hi).trans (by rw [hF.i _ _ b (hlv i hi) (hlv i' hi') h1 h2])) (hin i' hi'))
  unfold Oper.wp
  have hex : (execOp a.eval o).run P w = .ok (.enter f (args.toList.map a.eval ++ vs.toList).toArray) w := by
    unfold execOp
    simp only [ho, resolve, hv, Deferred.ofValue, invoke, Sem.run_bind, Sem.run_pure, Result.andThen_ok]
    have e1 : (#[] ++ Array.map a.eval args ++ vs : Array Value) = (args.toList.map a.eval ++ vs.toList).toArray := by
      apply Array.ext'
      simp
    rw [e1]
    exact run_call hf hn hb _ w
  rw [hex, Oper.upon_enter]
  refine Calls.mono hcall ?_
  rintro e w' ⟨rv, U', S', rfl, h1, h2, h3, h3', h4, h5⟩
  exact hK _ _ (callX_fit (o := o) ms hs hF (nd_of hnd) hl (Nat.eq_of_beq_eq_true hle) hm' hk hk' hd h1 h2 h3 h3' h4 h5 (ms ++ rns))
theorem op_callX {o : Oper} {σ : AS} {f : FuncId} {args : Array Operand} {ats : Array TypeId} (ms : List Nat) {obs obs' : List Ob} (ho : o.op = .call { callee := .value (.func f), args := args, argTypes := ats }) {fn : Func} (hf : P.funcs[f]? = some fn) (hn : (fn.name == "runtime.NumGoroutine") = false) (hb : fn.body.isNone = false)
    {as : List XA} {rns : List Nat} (hx : XS σ ms args.toList as rns) (hnd : ndB ms = true) (hm : obsAt σ ms obs) (hle : Nat.beq obs'.length obs.length = true) (hk : obs.all boxB = true) (hk' : obs'.all boxB = true) {r : RV} (hc : CtrX P f as obs obs' r) (hd : dOk o N = true) :
    OpS P N w0 U0 o σ ⟨o.dst.map fun d => (d, r.av), ms.zip obs', ms ++ rns, []⟩ :=
  callX ms ho ⟨fn, hf, hn, hb⟩ (caps := []) (fun σ' a w F _ _ => ⟨#[], rfl, rfl, fun j u c h => by simp at h⟩) hx .nil hnd hm hle hk hk' (by rw [List.append_nil]; exact hc) hd
theorem op_callXV {o : Oper} {σ : AS} {f : FuncId} {fo : Operand} {args : Array Operand} {ats : Array TypeId} (ms : List Nat) {obs obs' : List Ob} (ho : o.op = .call { callee := .value fo, args := args, argTypes := ats }) (hg : FnOk P f) {caps : List XA} (hfo : σ.ev fo = .cl f caps)
    {as cs : List XA} {rns : List Nat} (hx : XS σ ms args.toList as rns) (hcs : XC ms caps cs) (hnd : ndB ms = true) (hm : obsAt σ ms obs) (hle : Nat.beq obs'.length obs.length = true) (hk : obs.all boxB = true) (hk' : obs'.all boxB = true) {r : RV} (hc : CtrX P f (as ++ cs) obs obs' r) (hd : dOk o N = true) :
    OpS P N w0 U0 o σ ⟨o.dst.map fun d => (d, r.av), ms.zip obs', ms ++ rns, []⟩ :=
  callX ms ho hg (caps := caps) (fun σ' a w F hev hF => by
    have := hF.ev fo
    rw [hev fo (by simp [ho, Op.operands, Call.operands]), hfo] at this
    obtain ⟨vs, e, hl, hv⟩ := this
    exact ⟨vs, e, by simpa using hl, hv⟩) hx hcs hnd hm hle hk hk' hc hd
inductive CapX (σ : AS) : List Operand → List XA → Prop
  | nil : CapX σ [] []
  | d {x : Operand} {xs : List Operand} {d : DV} {cs : List XA} (hv : σ.ev x = .d d) (hs : CapX σ xs cs) : CapX σ (x :: xs) (.d d :: cs)
  | p {x : Operand} {xs : List Operand} {m : Nat} {cs : List XA} (hv : σ.ev x = .pt m 0) (hs : CapX σ xs cs) : CapX σ (x :: xs) (.p m :: cs)
  | v {x : Operand} {xs : List Operand} {m : Nat} {u : Value} {cs : List XA} (hv : σ.ev x = .pv m u) (hs : CapX σ xs cs) : CapX σ (x :: xs) (.p m :: cs)
theorem op_mkcl {o : Oper} {σ : AS} {g : FuncId} {caps : Array Operand} (ho : o.op = .makeFunc (.func g) #[] caps) {cs : List XA} (hc : CapX σ caps.toList cs) (hd : dOk o N = true) : OpS P N w0 U0 o σ ⟨o.dst.map fun d => (d, .cl g cs), [], [], []⟩ :=
  opS_still (P := P) (av := .cl g cs) hd fun σ' hok a w F hF => by
    have key : ∀ xs cs, CapX σ xs cs → (∀ x ∈ xs, σ'.ev x = σ.ev x) → Rxs w F (xs.map a.eval) cs := by
      intro xs cs h
      induction h with
      | nil => intro _; exact ⟨rfl, fun j u c h => by simp at h⟩
      | @d x xs d cs hv hs ih =>
        intro hev
        refine Rxs.cons ?_ (ih (fun x hx => hev x (by simp [hx])))
        have := hF.ev x
        rw [hev x (by simp), hv] at this
        exact this
      | @p x xs m cs hv hs ih =>
        intro hev
        refine Rxs.cons ?_ (ih (fun x hx => hev x (by simp [hx])))
        have := hF.ev x
        rw [hev x (by simp), hv] at this
        exact this
      | @v x xs m u cs hv hs ih =>
        intro hev
        refine Rxs.cons ?_ (ih (fun x hx => hev x (by simp [hx])))
        have := hF.ev x
        rw [hev x (by simp), hv] at this
        obtain ⟨e, b, h1, h2⟩ := this
        exact ⟨b, h1, e.trans h2⟩
    have h1 := key _ _ hc (fun x hx => ev_ok hok (by simp [ho, Op.operands]; simpa using hx))
    refine ⟨.func (.func g) #[] (caps.map a.eval), by simp [execOp, ho, Instr.makeFunc], _, rfl, by have := h1.1; simpa using this, by have := h1.2; simpa using this⟩
end
end Go.Proofs.Ytobgdemhadlgnaa.Av

namespace Go.Proofs.Ytobgdemhadlgnaa.Av
open Go Go.RowKit
/-- what is known of the world from the start, and stays -/
def KSt (K : World → (Nat → Nat) → Prop) : Prop := ∀ w U w' U', Below w.heap.size w w' → (∀ b, b < w.heap.size → U' b = U b) → K w U → K w' U'
theorem kst_glo (g : Nat) (gs : List DV) : KSt (Glo g gs) := fun w U w' U' hb hu h => Rd.ext (Up.ext (⟨fun b hb' => hb.block b hb', hu⟩ : Up w U w' U')) h
theorem kst_w {T : World → Prop} (h : ∀ w w', T w → Below w.heap.size w w' → T w') : KSt (fun w _ => T w) := fun w U w' U' hb _ hT => h w w' hT hb
theorem kst_and {K L : World → (Nat → Nat) → Prop} (hK : KSt K) (hL : KSt L) : KSt (fun w U => K w U ∧ L w U) := fun w U w' U' hb hu h => ⟨hK w U w' U' hb hu h.1, hL w U w' U' hb hu h.2⟩
/-- a function takes such data to such a result where the world is so -/
def CtrK (P : Program) (K : World → (Nat → Nat) → Prop) (f : FuncId) (args : List DV) (r : RV) : Prop :=
  ∀ (vals : List Value) (U : Nat → Nat) (w : World), K w U → Rds w U vals args → Calls P f vals.toArray w fun e w' => ∃ v U', e = .returned v ∧ Below w.heap.size w w' ∧ (∀ b, b < w.heap.size → U' b = U b) ∧ Rres w' U' v r
theorem ctrK_of {P : Program} {K : World → (Nat → Nat) → Prop} {f : FuncId} {args : List DV} {r : RV} (h : Ctr P f args r) : CtrK P K f args r := fun vals U w _ hR => h vals U w hR
theorem rds_flat {w : World} {U : Nat → Nat} : ∀ {xs vals : List Value}, Rds w U vals (xs.map DV.fl) → vals = xs
  | [], [], _ => rfl
  | [], _ :: _, h => by have := h.1; simp at this
  | _ :: _, [], h => by have := h.1; simp at this
  | x :: xs, v :: vals, h => by
    have h' : Rds w U (v :: vals) (DV.fl x :: xs.map DV.fl) := h
    obtain ⟨h1, h2⟩ := h'.inv_cons
    rw [rd_fl h1, rds_flat h2]
theorem ctrK_flat {P : Program} {K : World → (Nat → Nat) → Prop} {f : FuncId} (xs : List Value) {r : Value} (h : ∀ w U, K w U → Calls P f xs.toArray w fun e w' => e = .returned r ∧ Below w.heap.size w w') : CtrK P K f (xs.map DV.fl) (.d (.fl r)) := by
  intro vals U w hK hR
  rw [rds_flat hR]
  refine Calls.mono (h w U hK) ?_
  rintro e w' ⟨rfl, hb⟩
  exact ⟨r, U, rfl, hb, fun _ _ => rfl, .fl _⟩
theorem ctr_flat {P : Program} {f : FuncId} (xs : List Value) {r : Value} (h : ∀ w, Calls P f xs.toArray w fun e w' => e = .returned r ∧ Below w.heap.size w w') : Ctr P f (xs.map DV.fl) (.d (.fl r)) := by
  intro vals U w hR
  rw [rds_flat hR]
  refine Calls.mono (h w) ?_
  rintro e w' ⟨rfl, hb⟩
  exact ⟨r, U, rfl, hb, fun _ _ => rfl, .fl _⟩
section
variable {P : Program} {N : Nat} {w0 : World} {U0 : Nat → Nat}
theorem op_callK {o : Oper} {σ : AS} {f : FuncId} {args : Array Operand} {ats : Array TypeId} {K : World → (Nat → Nat) → Prop} (hst : KSt K) (hG : K w0 U0) (ho : o.op = .call { callee := .value (.func f), args := args, argTypes := ats }) {fn : Func} (hf : P.funcs[f]? = some fn) (hn : (fn.name == "runtime.NumGoroutine") = false) (hb : fn.body.isNone = false)
    {ds : List DV} {rns : List Nat} {r : RV} (ha : ArgsS σ args.toList ds rns) (hc : CtrK P K f ds r) (hd : dOk o N = true) : OpS P N w0 U0 o σ ⟨o.dst.map fun d => (d, r.av), [], rns, []⟩ := by
  intro σ' hok a w hs K' Q hK
  obtain ⟨F, hF⟩ := hs.f
  have hR := ha.get hF hok.n (fun x hx => ev_ok hok (by simp [ho, Op.operands, Call.operands]; exact .inr (by simpa using hx)))
  have hcall := hc _ F.U w (hst _ _ _ _ hs.b hF.u hG) hR
  unfold Oper.wp
  have hex : (execOp a.eval o).run P w = .ok (.enter f (args.toList.map a.eval).toArray) w := by
    unfold execOp
    simp only [ho, resolve, Act.eval, Deferred.ofValue, invoke, Sem.run_bind, Sem.run_pure, Result.andThen_ok]
    have e1 : (#[] ++ Array.map a.eval args ++ #[] : Array Value) = (args.toList.map a.eval).toArray := by
      apply Array.ext'
      simp
    rw [e1]
    exact run_call hf hn hb _ w
  rw [hex, Oper.upon_enter]
  refine Calls.mono hcall ?_
  rintro e w' ⟨v, U', rfl, h1, h2, h3⟩
  have hfit := hF.put (U' := U') hs.b.size ⟨h1.block, h2⟩ hd hs.s (av := r.av) (v := v) (Rres.av (F := { F with U := U' }) h3) rns []
  exact hK _ _ ⟨by rw [put_defers]; exact hs.d, by rw [put_size]; exact hs.s, hs.b.trans (h1.mono hs.b.size), _, hfit⟩
theorem ctrK {K : World → (Nat → Nat) → Prop} {f : FuncId} {fn : Func} {c : Code} {args : List DV} {r : RV} {n : Nat} {rs : Array ResultVar} {L : List (Nat × AV)} (hf : P.funcs[f]? = some fn) (hb : fn.body = some c) (hn : fn.ntmps = n) (hr : fn.results = rs) (hl : Nat.ble args.length n = true) (hL : args0 args 0 = L)
    (h : ∀ w0 U0, K w0 U0 → A P n w0 U0 c (retR P rs r) (SS L [])) : CtrK P K f args r := by
  subst hn
  subst hr
  subst hL
  intro vals U w hg hR
  have hle := Nat.le_of_ble_eq_true hl
  have hsz : (vals.toArray ++ Array.replicate (fn.ntmps - vals.toArray.size) undef).size = fn.ntmps := by simp [hR.1]; omega
  refine calls_of_wp hf hb ((h w U hg).go _ _ ⟨rfl, hsz, Below.refl _ _, ⟨fun _ => none, fun _ => undef, U, fun _ _ => False⟩, fun _ _ => rfl, fun t => ?_, fun m => trivial, fun m m' b h => by cases h⟩ _ (fun e σ' a' w' hr hs' => ?_))
  · show Rav w _ (lk (args0 args 0) t) _
    rw [args0_get]
    split
    · rename_i ht
      have hl := hR.1
      have ht' : t < args.length := by simpa using ht.2
      have hv : (vals.toArray ++ Array.replicate (fn.ntmps - vals.toArray.size) undef).getD t undef = vals[t]'(by omega) := by
        rw [Array.getD_eq_getD_getElem?, Array.getElem?_append_left (by simp; omega)]
        simp [List.getElem?_eq_getElem (show t < vals.length by omega)]
      rw [hv]
      exact hR.2 t _ _ (List.getElem?_eq_getElem (by omega)) (by simp [List.getElem?_eq_getElem ht'])
    · trivial
  · have key : (∃ ds, ResL P σ' fn.results.toList ds ∧ RV.of ds = r) → a'.defers = [] ∧ ∃ v, (results fn a'.tmps).run P w' = .ok v w' ∧ ∃ v' U', Ending.returned v = .returned v' ∧ Below w.heap.size w w' ∧ (∀ b, b < w.heap.size → U' b = U b) ∧ Rres w' U' v' r := by
      rintro ⟨ds, hL, hr⟩
      obtain ⟨F, hF⟩ := hs'.f
      obtain ⟨vs, h1, h2⟩ := hL.run hF
      have hm : (fn.results.mapM (resVal a')).run P w' = .ok vs.toArray w' := by
        rw [Array.mapM_eq_mapM_toList]
        simp [h1]
      refine ⟨hs'.d, if hh : vs.toArray.size = 1 then vs.toArray[0] else .tuple vs.toArray, ?_, _, F.U, rfl, hs'.b, hF.u, ?_⟩
      · have hres : results fn a'.tmps = (fn.results.mapM (resVal a') >>= fun vs => pure (if h : vs.size = 1 then vs[0] else .tuple vs)) := rfl
        rw [hres, Sem.run_bind, hm]
        rfl
      · subst hr
        have hl := h2.1
        match vs, ds, hl, h2 with
        | [], [], _, h2 => exact ⟨_, rfl, h2⟩
        | [v], [d], _, h2 => exact h2.2 0 v d rfl rfl
        | v :: v2 :: vs, d :: d2 :: ds, _, h2 =>
          have : ¬ ((v :: v2 :: vs).toArray.size = 1) := by simp
          rw [dif_neg this]
          exact ⟨_, rfl, h2⟩
    cases e with
    | normal => exact key hr
    | ret => exact key hr
    | _ => exact hr.elim
theorem law_trueK {K : World → (Nat → Nat) → Prop} {f : FuncId} {args : List DV} (hc : CtrK P K f args (.d (.fl (.bool true)))) {vals : List Value} {w : World} (hg : K w (UA w)) (h : Rds w (UA w) vals args) : Calls P f vals.toArray w fun e w' => e = .returned (.bool true) ∧ Below w.heap.size w w' := by
  refine Calls.mono (hc vals (UA w) w hg h) ?_
  rintro e w' ⟨v, U', rfl, h1, _, h3⟩
  have h3' : Rd w' U' v (.fl (.bool true)) := h3
  cases h3'
  exact ⟨rfl, h1⟩
end
theorem b_sadd {P : Program} (t : TypeId) (s u : ByteArray) (x y : Operand) (w : World) (h : s.size + u.size ≤ 9223372036854775807) : (do eqGuard .add t x y (.string s) (.string u); binOp .add t (.string s) (.string u) : Sem Value).run P w = .ok (.string (s ++ u)) w := by
  have h' : ¬ ((9223372036854775807 : Int) < (s.size : Int) + (u.size : Int)) := by omega
  simp [eqGuard, binOp, Op.stringOp, IntKind.max, IntKind.signed, IntKind.bits, h']
/-- the pointer of a slot gets a name -/
theorem rg_name {P : Program} {N : Nat} {w0 : World} {U0 : Nat → Nat} {ops : Array Oper} {k : Nat} {L : List (Nat × AV)} {M : List (Nat × Ob)} {R : AS → Prop} (t m : Nat) (ht : lk L t = .pt m 0) (h : ∀ v, (∃ b, v = .pointer (some ⟨b, 0, none⟩)) → RG P N w0 U0 ops k (SS ((t, .pv m v) :: L) M) R) : RG P N w0 U0 ops k (SS L M) R := by
  refine ⟨fun a w hs Q hQ => ?_⟩
  obtain ⟨F, hF⟩ := hs.f
  obtain ⟨b, hb, hv⟩ : Rav w F (.pt m 0) (a.tmps.getD t undef) := by have := hF.t t; rwa [show (SS L M).t t = _ from ht] at this
  refine (h (a.tmps.getD t undef) ⟨b, hv⟩).go a w ⟨hs.d, hs.s, hs.b, F, hF.u, fun j => ?_, hF.n, hF.i⟩ Q hQ
  show Rav w F (bif Nat.beq t j then AV.pv m _ else lk L j) _
  by_cases hj : t = j
  · subst hj
    rw [Nat.beq_refl]
    exact ⟨rfl, b, hb, hv⟩
  · rw [nbeq hj]
    exact hF.t j
/-- any value reads as itself -/
def rV (v : Value) : List DV := [.fl v]
theorem opens_vslice {P : Program} {t e : TypeId} (hu : P.underlying t = some (.slice e)) : Opens P t rV (fun _ => True) := by
  intro H enc w base spare held fuel cs x h
  rcases Go.Deep.open_slice hu h with ⟨rfl, _⟩ | ⟨a, n, cap, m, k, D, Pl, rfl, _⟩
  · exact ⟨_, rc_one (.fl _) rfl, trivial⟩
  · exact ⟨_, rc_one (.fl _) rfl, trivial⟩
theorem opens_vint {P : Program} {t : TypeId} {k : IntKind} (hu : P.underlying t = some (.int k)) : Opens P t rV (fun _ => True) := by
  intro H enc w base spare held fuel cs x h
  obtain ⟨n, rfl, _, hw⟩ := DataW.trod_int hu h
  exact ⟨_, rc_one (.fl _) rfl, trivial⟩
theorem opens_vstr {P : Program} {t : TypeId} (hu : P.underlying t = some .string) : Opens P t rV (fun _ => True) := by
  intro H enc w base spare held fuel cs x h
  obtain ⟨n, rfl, _, hw⟩ := DataW.trod_string hu h
  exact ⟨_, rc_one (.fl _) rfl, trivial⟩
end Go.Proofs.Ytobgdemhadlgnaa.Av
