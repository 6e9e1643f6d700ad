/- Functions that work on a thing of their caller's in place. Conditions: as each theorem names them. -/
import Derived.Test.YteplcjhnmmpicaaAv22
import Derived.Test.YteplcjhnmmpicaaAv24
set_option linter.unusedSimpArgs false
set_option linter.unusedVariables false
namespace Go.Proofs.Yteplcjhnmmpicaa.Av
open Go Go.RowKit
/-- as the pointer to a block, or as a row -/
inductive TK where
  | p
  | r
def TK.av : TK → Value → AV
  | .p, v => .pv 0 v
  | .r, v => .pw 0 v
def TK.cav : TK → Nat → AV
  | .p, m => .pt m 0
  | .r, m => .ow m
def TK.ok : TK → Ob → Bool
  | .p, .bx _ _ => true
  | .p, .bt _ _ => true
  | .r, .tr _ _ _ => true
  | _, _ => false
theorem Tcs.zero {w : World} {U : Nat → Nat} {B : Nat} {us : List Value} {cs : List OC} {T : Nat → Nat → Prop} (h : Tcs w U B us cs T) {k b : Nat} (hb : T k b) : U b = 0 := by
  have hk := h.b k b hb
  have hl := h.l
  have hc := h.c k _ _ (List.getElem?_eq_getElem hk) (List.getElem?_eq_getElem (by omega))
  revert hc
  cases cs[k]'(by omega) with
  | un => exact fun hc => absurd hb (hc b)
  | dv x => exact fun hc => absurd hb (hc.2 b)
  | ow e z rows =>
    rintro ⟨xs, _, _, _, h4, h5⟩
    exact h5 b ((h4 b).1 hb)
theorem ownsRow_rebase {w : World} {B : Nat} {e : TypeId} {z : Nat} {v : Value} {n : Nat} {xs : List Value} (h : w.ownsRow 0 e z v n xs) (hB : ∀ g, v.ownBlock = some g → B ≤ g) : w.ownsRow B e z v n xs := by
  refine ⟨h.1, ?_⟩
  rcases h.2 with h0 | ⟨g, cap, cur, h1, h2, h3⟩
  · exact .inl h0
  · exact .inr ⟨g, cap, cur, h1, hB g (by rw [h1]; rfl), h3⟩
theorem Tcs.rebase {w : World} {U : Nat → Nat} {B : Nat} {us : List Value} {cs : List OC} {T : Nat → Nat → Prop} (h : Tcs w U 0 us cs T) (hB : ∀ k b, T k b → B ≤ b) : Tcs w U B us cs T :=
  ⟨h.l, fun k u c h1 h2 => by
    have := h.c k u c h1 h2
    cases c with
    | un => exact this
    | dv x => exact this
    | ow e z rows => obtain ⟨xs, g1, g2, g3, g4, g5⟩ := this; exact ⟨xs, ownsRow_rebase g1 (fun g hg => hB k g ((g4 g).2 hg)), g2, g3, g4, g5⟩, h.o, h.d, h.b⟩
theorem Rob.zero {B : Nat} {w : World} {F : Fr} {m : Nat} {o : Ob} {k : TK} (hk : k.ok o = true) (h : Rob B w F m o) {b : Nat} (hb : F.S m b) : F.U b = 0 := by
  cases k <;> cases o <;> simp [TK.ok] at hk
  · obtain ⟨b', vs, _, _, h3, _, _, h6⟩ := h
    rw [(h6 b).1 hb]; exact h3
  · obtain ⟨b', vs, T, _, _, h3, _, h5, _, h7⟩ := h
    rcases (h7 b).1 hb with h8 | ⟨k, h8⟩
    · rw [h8]; exact h3
    · exact h5.zero h8
  · obtain ⟨xs, T, _, h2, _, h4, h5⟩ := h
    rcases (h5 b).1 hb with h6 | ⟨k, h6⟩
    · exact (h4 b h6).1
    · exact h2.zero h6
theorem Rob.move {B : Nat} {w : World} {F F' : Fr} {m m' : Nat} {o : Ob} {k : TK} (hk : k.ok o = true) (h : Rob B w F m o) (hβ : k = .p → F'.β m' = F.β m) (hγ : k = .r → F'.γ m' = F.γ m) (hS : ∀ b, F'.S m' b ↔ F.S m b) (hU : F'.U = F.U) : Rob B w F' m' o := by
  cases k <;> cases o <;> simp [TK.ok] at hk
  · obtain ⟨b, vs, h1, h2, h3, h4, h5, h6⟩ := h
    exact ⟨b, vs, (hβ rfl).trans h1, h2, by rw [hU]; exact h3, h4, by rw [hU]; exact h5, fun b' => (hS b').trans (h6 b')⟩
  · obtain ⟨b, vs, T, h1, h2, h3, h4, h5, h6, h7⟩ := h
    exact ⟨b, vs, T, (hβ rfl).trans h1, h2, by rw [hU]; exact h3, h4, by rw [hU]; exact h5, h6, fun b' => (hS b').trans (h7 b')⟩
  · obtain ⟨xs, T, h1, h2, h3, h4, h5⟩ := h
    exact ⟨xs, T, by rw [hγ rfl]; exact h1, by rw [hU]; exact h2, h3, by rw [hγ rfl, hU]; exact h4, fun b => by rw [hγ rfl]; exact (hS b).trans (h5 b)⟩
theorem Rob.rebase {B : Nat} {w : World} {F : Fr} {m : Nat} {o : Ob} {k : TK} (hk : k.ok o = true) (h : Rob 0 w F m o) (hB : ∀ b, F.S m b → B ≤ b) : Rob B w F m o := by
  cases k <;> cases o <;> simp [TK.ok] at hk
  · obtain ⟨b, vs, h1, h2, h3, h4, h5, h6⟩ := h
    exact ⟨b, vs, h1, hB b ((h6 b).2 rfl), h3, h4, h5, h6⟩
  · obtain ⟨b, vs, T, h1, h2, h3, h4, h5, h6, h7⟩ := h
    exact ⟨b, vs, T, h1, hB b ((h7 b).2 (.inl rfl)), h3, h4, h5.rebase (fun k b' hb => hB b' ((h7 b').2 (.inr ⟨k, hb⟩))), h6, h7⟩
  · obtain ⟨xs, T, h1, h2, h3, h4, h5⟩ := h
    exact ⟨xs, T, ownsRow_rebase h1 (fun g hg => hB g ((h5 g).2 (.inl hg))), h2.rebase (fun k b' hb => hB b' ((h5 b').2 (.inr ⟨k, hb⟩))), h3, h4, h5⟩
theorem Rob.debase {B : Nat} {w : World} {F : Fr} {m : Nat} {o : Ob} {k : TK} (hk : k.ok o = true) (h : Rob B w F m o) : Rob 0 w F m o := by
  cases k <;> cases o <;> simp [TK.ok] at hk
  · obtain ⟨b, vs, h1, h2, h3, h4, h5, h6⟩ := h
    exact ⟨b, vs, h1, Nat.zero_le _, h3, h4, h5, h6⟩
  · obtain ⟨b, vs, T, h1, h2, h3, h4, h5, h6, h7⟩ := h
    exact ⟨b, vs, T, h1, Nat.zero_le _, h3, h4, h5.base (Nat.zero_le _), h6, h7⟩
  · obtain ⟨xs, T, h1, h2, h3, h4, h5⟩ := h
    exact ⟨xs, T, Rc.base h1 (Nat.zero_le _), h2.base (Nat.zero_le _), h3, h4, h5⟩
def thF (β : Option Nat) (γ : Value) (U : Nat → Nat) (S0 : Nat → Prop) : Fr := ⟨fun _ => β, fun _ => γ, U, fun _ => S0⟩
def bare (w : World) : World := { w with heap := #[] }
/-- a function works on a thing of its caller's in place, and hands back data -/
def CtrM (P : Program) (f : FuncId) (k : TK) (ob : Ob) (args : List DV) (ob' : Ob) (r : RV) : Prop :=
  ∀ (v : Value) (vals : List Value) (β : Option Nat) (γ : Value) (U : Nat → Nat) (S0 : Nat → Prop) (w : World),
    Rav w (thF β γ U S0) (k.av v) v → Rob 0 w (thF β γ U S0) 0 ob → Rds w U vals args →
    Calls P f (v :: vals).toArray w fun e w' => ∃ rv U' S', e = .returned rv ∧ Below 0 (bare w) w' ∧ (∀ g, g < w.heap.size → ¬ S0 g → w'.heap[g]? = w.heap[g]? ∧ U' g = U g) ∧ (∀ g, S' g → S0 g ∨ w.heap.size ≤ g) ∧ Rob 0 w' (thF β γ U' S') 0 ob' ∧ Rres w' U' rv r
section
variable {P : Program} {N : Nat} {w0 : World} {U0 : Nat → Nat}
def retM (P : Program) (rs : Array ResultVar) (k : TK) (v : Value) (H : World) (V : Nat → Nat) (Q : Nat → Prop) (ob' : Ob) (r : RV) : Exit → AS → Prop
  | .normal, σ | .ret, σ => (∃ ds, ResL P σ rs.toList ds ∧ RV.of ds = r) ∧ σ.t 0 = k.av v ∧ σ.n 0 = ob' ∧ σ.n 1 = .pin H V Q
  | _, _ => False
theorem ctrM {f : FuncId} {fn : Func} {c : Code} {k : TK} {ob ob' : Ob} {args : List DV} {r : RV} {n : Nat} {rs : Array ResultVar} {L : List (Nat × AV)} (hf : P.funcs[f]? = some fn) (hb : fn.body = some c) (hn : fn.ntmps = n) (hr : fn.results = rs) (hl : Nat.ble (args.length + 1) n = true) (hk : k.ok ob = true) (hk' : k.ok ob' = true) (hL : args0 args 1 = L)
    (h : ∀ w0 U0 v H V Q, A P n w0 U0 c (retM P rs k v H V Q ob' r) (SS ((0, k.av v) :: L) [(0, ob), (1, .pin H V Q)])) : CtrM P f k ob args ob' r := by
  subst hn
  subst hr
  subst hL
  intro v vals β γ U S0 w hv hob hR
  have hle := Nat.le_of_ble_eq_true hl
  have hsz : ((v :: vals).toArray ++ Array.replicate (fn.ntmps - (v :: vals).toArray.size) undef).size = fn.ntmps := by have := hR.1; simp; omega
  let F : Fr := ⟨fun _ => β, fun _ => γ, U, fun j g => if j = 0 then S0 g else (g < w.heap.size ∧ ¬ S0 g)⟩
  have hget : ∀ t, ((v :: vals).toArray ++ Array.replicate (fn.ntmps - (v :: vals).toArray.size) undef).getD t undef = if t = 0 then v else if h : t - 1 < vals.length then vals[t - 1] else undef := by
    intro t
    cases t with
    | zero =>
      rw [Array.getD_eq_getD_getElem?, Array.getElem?_append_left (by simp)]
      simp
    | succ t =>
      rw [Array.getD_eq_getD_getElem?]
      rcases Nat.lt_or_ge t vals.length with ht | ht
      · rw [Array.getElem?_append_left (by simp; omega)]
        simp [ht]
      · rw [Array.getElem?_append_right (by simp; omega), Array.getElem?_replicate]
        simp only [Nat.add_one_ne_zero, if_false]
        rw [dif_neg (by omega)]
        split <;> rfl
  have hfit : Fits (bare w) U (SS ((0, k.av v) :: args0 args 1) [(0, ob), (1, .pin w U (fun g => g < w.heap.size ∧ ¬ S0 g))]) ⟨(v :: vals).toArray ++ Array.replicate (fn.ntmps - (v :: vals).toArray.size) undef, []⟩ w F := by
    refine ⟨fun b hb => rfl, fun t => ?_, fun m => ?_, fun m m' b h1 h2 h3 h4 => ?_⟩
    · show Rav w F (bif Nat.beq 0 t then k.av v else lk (args0 args 1) t) _
      rw [hget]
      cases t with
      | zero => rw [Nat.beq_refl, if_pos rfl]; cases k <;> exact hv
      | succ t =>
        rw [nbeq (by omega), cond_false, args0_get, if_neg (by omega)]
        split
        · rename_i ht
          have hl := hR.1
          have ht' : t < args.length := by have := ht.2; omega
          simp only [Nat.add_sub_cancel]
          rw [dif_pos (by omega)]
          exact hR.2 t _ _ (List.getElem?_eq_getElem (by omega)) (List.getElem?_eq_getElem ht')
        · trivial
    · show Rob 0 w F m (bif Nat.beq 0 m then ob else bif Nat.beq 1 m then .pin w U _ else .no)
      by_cases h0 : m = 0
      · subst h0
        rw [Nat.beq_refl]
        exact hob.move (k := k) hk (fun _ => rfl) (fun _ => rfl) (fun b => by simp [F, thF]) rfl
      · rw [nbeq (Ne.symm h0), cond_false]
        by_cases h1 : m = 1
        · subst h1
          rw [Nat.beq_refl]
          exact ⟨fun b => by simp [F], fun b hq => ⟨Nat.zero_le _, hq.1, rfl, rfl⟩⟩
        · rw [nbeq (Ne.symm h1), cond_false]; trivial
    · have key : ∀ m, ((SS ((0, k.av v) :: args0 args 1) [(0, ob), (1, .pin w U (fun g => g < w.heap.size ∧ ¬ S0 g))]).n m).live = true → m = 0 ∨ m = 1 := by
        intro m hm
        by_cases h0 : m = 0
        · exact .inl h0
        · by_cases h1 : m = 1
          · exact .inr h1
          · have : (SS ((0, k.av v) :: args0 args 1) [(0, ob), (1, .pin w U (fun g => g < w.heap.size ∧ ¬ S0 g))]).n m = .no := by
              show (bif Nat.beq 0 m then ob else bif Nat.beq 1 m then _ else .no) = _
              rw [nbeq (Ne.symm h0), cond_false, nbeq (Ne.symm h1), cond_false]
            rw [this] at hm; cases hm
      rcases key m h1 with rfl | rfl <;> rcases key m' h2 with rfl | rfl
      · rfl
      · have g1 : S0 b := h3
        have g2 : b < w.heap.size ∧ ¬ S0 b := h4
        exact absurd g1 g2.2
      · have g1 : S0 b := h4
        have g2 : b < w.heap.size ∧ ¬ S0 b := h3
        exact absurd g1 g2.2
      · rfl
  refine calls_of_wp hf hb ((h (bare w) U v w U (fun g => g < w.heap.size ∧ ¬ S0 g)).go _ w ⟨rfl, hsz, ⟨rfl, rfl, rfl, Nat.zero_le _, fun k hk => by have : k < 0 := hk; omega⟩, F, hfit⟩ _ (fun e σ' a' w' hr hs' => ?_))
  have key : ((∃ ds, ResL P σ' fn.results.toList ds ∧ RV.of ds = r) ∧ σ'.t 0 = k.av v ∧ σ'.n 0 = ob' ∧ σ'.n 1 = .pin w U (fun g => g < w.heap.size ∧ ¬ S0 g)) → a'.defers = [] ∧ ∃ x, (results fn a'.tmps).run P w' = .ok x w' ∧ ∃ rv U' S', Ending.returned x = .returned rv ∧ Below 0 (bare w) w' ∧ (∀ g, g < w.heap.size → ¬ S0 g → w'.heap[g]? = w.heap[g]? ∧ U' g = U g) ∧ (∀ g, S' g → S0 g ∨ w.heap.size ≤ g) ∧ Rob 0 w' (thF β γ U' S') 0 ob' ∧ Rres w' U' rv r := by
    rintro ⟨⟨ds, hL, hrr⟩, ht0, hn0, hn1⟩
    obtain ⟨F', hF⟩ := hs'.f
    obtain ⟨vs, h1, h2⟩ := hL.run hF
    have hm : (fn.results.mapM (resVal a')).run P w' = .ok vs.toArray w' := by
      rw [Array.mapM_eq_mapM_toList]
      simp [h1]
    have hp := hF.n 1
    rw [hn1] at hp
    obtain ⟨hp1, hp2⟩ := hp
    have ho : Rob 0 w' F' 0 ob' := by have := hF.n 0; rwa [hn0] at this
    have hl0 : (σ'.n 0).live = true := by rw [hn0]; cases k <;> cases ob' <;> simp [TK.ok] at hk' <;> rfl
    have hl1 : (σ'.n 1).live = true := by rw [hn1]; rfl
    have hav : Rav w' F' (k.av v) (a'.tmps.getD 0 undef) := by have := hF.t 0; rwa [ht0] at this
    refine ⟨hs'.d, if hh : vs.toArray.size = 1 then vs.toArray[0] else .tuple vs.toArray, ?_, _, F'.U, F'.S 0, rfl, hs'.b, fun g hg hS => ?_, fun g hg => ?_, ?_, ?_⟩
    · have hres : results fn a'.tmps = (fn.results.mapM (resVal a') >>= fun vs => pure (if h : vs.size = 1 then vs[0] else .tuple vs)) := rfl
      rw [hres, Sem.run_bind, hm]
      rfl
    · obtain ⟨_, _, g3, g4⟩ := hp2 g ⟨hg, hS⟩
      exact ⟨g3, g4⟩
    · by_cases hS : S0 g
      · exact .inl hS
      · by_cases hlt : g < w.heap.size
        · have := hF.i 0 1 g hl0 hl1 hg ((hp1 g).2 ⟨hlt, hS⟩)
          cases this
        · exact .inr (by omega)
    · refine ho.move (k := k) hk' (fun hkp => ?_) (fun hkr => ?_) (fun b => Iff.rfl) rfl
      · subst hkp
        obtain ⟨e1, b', e2, e3⟩ := hav
        obtain ⟨e4, b, e5, e6⟩ := hv
        show β = F'.β 0
        rw [e2]
        have e5' : β = some b := e5
        rw [e5']
        rw [e3] at e6
        injection e6 with e6
        injection e6 with e6
        injection e6 with e6
        rw [e6]
      · subst hkr
        obtain ⟨e1, e2⟩ := hav
        obtain ⟨e4, e5⟩ := hv
        exact e5.symm.trans e2
    · subst hrr
      have hl := h2.1
      match vs, ds, hl, h2 with
      | [], [], _, h2 => exact ⟨_, rfl, h2⟩
      | [v], [d], _, h2 => exact h2.2 0 v d rfl rfl
      | v :: v2 :: vs, d :: d2 :: ds, _, h2 =>
        have : ¬ ((v :: v2 :: vs).toArray.size = 1) := by simp
        rw [dif_neg this]
        exact ⟨_, rfl, h2⟩
  cases e with
  | normal => exact key hr
  | ret => exact key hr
  | _ => exact hr.elim
/-- what the call leaves to the caller -/
theorem callM_fit {o : Oper} {σ : AS} {a : Act} {w w' : World} {F : Fr} (m : Nat) {k : TK} {ob ob' : Ob} (hs : St N w0 U0 σ a w) (hF : Fits w0 U0 σ a w F) (hm : σ.n m = ob) (hk : k.ok ob = true) (hk' : k.ok ob' = true) (hd : dOk o N = true) {rv : Value} {U' : Nat → Nat} {S' : Nat → Prop} {r : RV}
    (h1 : Below 0 (bare w) w') (h2 : ∀ g, g < w.heap.size → ¬ F.S m g → w'.heap[g]? = w.heap[g]? ∧ U' g = F.U g) (h3 : ∀ g, S' g → F.S m g ∨ w.heap.size ≤ g) (h4 : Rob 0 w' (thF (F.β m) (F.γ m) U' S') 0 ob') (h5 : Rres w' U' rv r) (rns : List Nat) :
    St N w0 U0 ((⟨o.dst.map fun d => (d, r.av), [(m, ob')], rns, []⟩ : Eff).ap σ) (a.put o.dst rv) w' := by
  have hB := hs.b.size
  have hob : Rob w0.heap.size w F m ob := by have := hF.n m; rwa [hm] at this
  have hlm : (σ.n m).live = true := by rw [hm]; cases k <;> cases ob <;> simp [TK.ok] at hk <;> rfl
  have hSB : ∀ b, F.S m b → w0.heap.size ≤ b ∧ b < w.heap.size := fun b hb => hob.lt (by rw [← hm]; exact hlm) hb
  have hE : Ext w F.U w' U' := by
    refine ⟨fun b o u hc ho => ?_, fun q es c hq hu => ?_⟩
    · have hlt := World.block_lt_of_cell? w _ hc
      have hnS : ¬ F.S m b := fun hb => by have := hob.zero hk hb; omega
      obtain ⟨g1, g2⟩ := h2 b hlt hnS
      exact ⟨(World.cell?_of_block g1).trans hc, by rw [g2]; exact ho⟩
    · have hlt : q < w.heap.size := (Array.getElem?_eq_some_iff.1 hq).1
      have hnS : ¬ F.S m q := fun hb => by have := hob.zero hk hb; omega
      exact h2 q hlt hnS
  have hold : ∀ b, b < w0.heap.size → w'.heap[b]? = w.heap[b]? ∧ U' b = F.U b := fun b hb => h2 b (by omega) (fun hS => by have := (hSB b hS).1; omega)
  have hsz : w0.heap.size ≤ w'.heap.size := by
    rcases Nat.eq_zero_or_pos w0.heap.size with hz | hz
    · omega
    · have h6 := (hold (w0.heap.size - 1) (by omega)).1
      rw [Array.getElem?_eq_getElem (show w0.heap.size - 1 < w.heap.size by omega)] at h6
      have := (Array.getElem?_eq_some_iff.1 h6).1
      omega
  let F' : Fr := ⟨F.β, F.γ, U', fun j g => if j = m then S' g else F.S j g⟩
  have hnw : ∀ j, nwGet [(m, ob')] j = if j = m then some ob' else none := fun j => by
    show (bif Nat.beq m j then some ob' else none) = _
    by_cases hj : j = m
    · subst hj; rw [Nat.beq_refl, if_pos rfl]; rfl
    · rw [nbeq (Ne.symm hj), if_neg hj]; rfl
  have hfit : Fits w0 U0 ((⟨o.dst.map fun d => (d, r.av), [(m, ob')], rns, []⟩ : Eff).ap σ) (a.put o.dst rv) w' F' := by
    refine hF.big (F' := F') hE (fun b hb => (hold b hb).2) (fun j hj => ?_) (fun j hj => .inl ⟨rfl, rfl⟩) (fun j hl hj b hb hlt => ?_) (fun j o' hj => ?_) (fun j o' j' b hj hl hjj hl' hb hb' => ?_) (fun j o' j' o'' b hj hl hjj hl' hb hb' => ?_) (hta_put hd hs.s r.av rv).1 (fun d v' h => ?_) rns []
    · rw [hnw] at hj
      have a1 : j ≠ m := fun e => by rw [if_pos e] at hj; cases hj
      exact ⟨rfl, rfl, fun b => by show (if j = m then _ else _) ↔ _; rw [if_neg a1]⟩
    · rw [hnw] at hj
      have a1 : j ≠ m := fun e => by rw [if_pos e] at hj; cases hj
      exact h2 b hlt (fun hS => a1 (hF.i j m b hl hlm hb hS))
    · rw [hnw] at hj
      by_cases a1 : j = m
      · rw [if_pos a1] at hj
        injection hj with hj
        subst hj a1
        refine Rob.rebase (k := k) hk' (h4.move (k := k) hk' (fun _ => rfl) (fun _ => rfl) (fun b => by show (if j = j then S' b else _) ↔ S' b; rw [if_pos rfl]) rfl) (fun b hb => ?_)
        have hb' : (if j = j then S' b else F.S j b) := hb
        rw [if_pos rfl] at hb'
        rcases h3 b hb' with h6 | h6
        · exact (hSB b h6).1
        · omega
      · rw [if_neg a1] at hj; cases hj
    · rw [hnw] at hj hjj
      have a1 : j = m := by
        by_cases a1 : j = m
        · exact a1
        · rw [if_neg a1] at hj; cases hj
      have a2 : j' ≠ m := fun e => by rw [if_pos e] at hjj; cases hjj
      have hb1 : (if j = m then S' b else F.S j b) := hb
      rw [if_pos a1] at hb1
      rcases h3 b hb1 with h6 | h6
      · exact a2 (hF.i j' m b hl' hlm hb' h6)
      · have := ((hF.n j').lt hl' hb').2; omega
    · rw [hnw] at hj hjj
      have key : ∀ j (o : Ob), (if j = m then some ob' else none) = some o → j = m := fun j o hj => by
        by_cases a1 : j = m
        · exact a1
        · rw [if_neg a1] at hj; cases hj
      rw [key j o' hj, key j' o'' hjj]
    · obtain ⟨rfl, h3⟩ := (hta_put hd hs.s r.av rv).2 d v' h
      rw [h3]
      exact Rres.av (F := F') h5
  exact ⟨by rw [put_defers]; exact hs.d, by rw [put_size]; exact hs.s, ⟨h1.os.trans hs.b.os, h1.tape.trans hs.b.tape, h1.output.trans hs.b.output, hsz, fun b hb => (hold b hb).1.trans (hs.b.block b hb)⟩, _, hfit⟩
theorem op_callM {o : Oper} {σ : AS} {f : FuncId} {args : Array Operand} {ats : Array TypeId} (k : TK) {m : Nat} {ob ob' : Ob} (ho : o.op = .call { callee := .value (.func f), args := args, argTypes := ats }) {fn : Func} (hf : P.funcs[f]? = some fn) (hn : (fn.name == "runtime.NumGoroutine") = false) (hb : fn.body.isNone = false)
    {x : Operand} {xs : List Operand} (hxs : args.toList = x :: xs) (hx : σ.ev x = k.cav m) (hm : σ.n m = ob) (hk : k.ok ob = true) (hk' : k.ok ob' = true) {ds : List DV} {rns : List Nat} {r : RV} (ha : ArgsS σ xs ds rns) (hc : CtrM P f k ob ds ob' r) (hd : dOk o N = true) : OpS P N w0 U0 o σ ⟨o.dst.map fun d => (d, r.av), [(m, ob')], m :: rns, []⟩ := by
  intro σ' hok a w hs K Q hK
  obtain ⟨F, hF⟩ := hs.f
  have hmem : ∀ y ∈ args.toList, σ'.ev y = σ.ev y := fun y hy => ev_ok hok (by simp [ho, Op.operands, Call.operands]; exact .inr (by simpa using hy))
  have hR := ha.get hF (fun j hj => hok.n j (by simp [hj])) (fun y hy => hmem y (by rw [hxs]; simp [hy]))
  have hm' : σ'.n m = ob := (hok.n m (by simp)).trans hm
  have hv : Rav w (thF (F.β m) (F.γ m) F.U (F.S m)) (k.av (a.eval x)) (a.eval x) := by
    have := hF.ev x
    rw [hmem x (by rw [hxs]; simp), hx] at this
    cases k with
    | p =>
      obtain ⟨b, h1, h2⟩ := this
      exact ⟨rfl, b, h1, h2⟩
    | r => exact ⟨rfl, this⟩
  have hob : Rob 0 w (thF (F.β m) (F.γ m) F.U (F.S m)) 0 ob := by
    have := hF.n m
    rw [hm'] at this
    exact (Rob.debase hk this).move (k := k) hk (fun _ => rfl) (fun _ => rfl) (fun b => Iff.rfl) rfl
  have hcall := hc (a.eval x) _ (F.β m) (F.γ m) F.U (F.S m) w hv hob hR
  unfold Oper.wp
  have hex : (execOp a.eval o).run P w = .ok (.enter f (a.eval x :: xs.map a.eval).toArray) w := by
    unfold execOp
    simp only [ho, resolve, Act.eval, Deferred.ofValue, invoke, Sem.run_bind, Sem.run_pure, Result.andThen_ok]
    have e1 : (#[] ++ Array.map a.eval args ++ #[] : Array Value) = (a.eval x :: xs.map a.eval).toArray := by
      apply Array.ext'
      simp [hxs]
    rw [e1]
    exact run_call hf hn hb _ w
  rw [hex, Oper.upon_enter]
  refine Calls.mono hcall ?_
  rintro e w' ⟨rv, U', S', rfl, h1, h2, h3, h4, h5⟩
  exact hK _ _ (callM_fit (o := o) m hs hF hm' hk hk' hd h1 h2 h3 h4 h5 (m :: rns))
/-- the thing's slot says less -/
theorem imp_pv {L : List (Nat × AV)} {M : List (Nat × Ob)} (t m : Nat) {v : Value} (ht : lk L t = .pv m v) : Imp N w0 U0 (SS L M) (SS ((t, .pt m 0) :: L) M) := by
  intro a w hs
  obtain ⟨F, hF⟩ := hs.f
  refine ⟨hs.d, hs.s, hs.b, F, hF.u, fun j => ?_, hF.n, hF.i⟩
  show Rav w F (bif Nat.beq t j then AV.pt m 0 else lk L j) _
  by_cases hj : t = j
  · subst hj
    rw [Nat.beq_refl]
    have h1 : Rav w F (lk L t) _ := hF.t t
    rw [ht] at h1
    obtain ⟨e, b, h2, h3⟩ := h1
    exact ⟨b, h2, e.trans h3⟩
  · rw [nbeq hj]
    exact hF.t j
theorem imp_pw {L : List (Nat × AV)} {M : List (Nat × Ob)} (t m : Nat) {v : Value} (ht : lk L t = .pw m v) : Imp N w0 U0 (SS L M) (SS ((t, .ow m) :: L) M) := by
  intro a w hs
  obtain ⟨F, hF⟩ := hs.f
  refine ⟨hs.d, hs.s, hs.b, F, hF.u, fun j => ?_, hF.n, hF.i⟩
  show Rav w F (bif Nat.beq t j then AV.ow m else lk L j) _
  by_cases hj : t = j
  · subst hj
    rw [Nat.beq_refl]
    have h1 : Rav w F (lk L t) _ := hF.t t
    rw [ht] at h1
    exact h1.1.trans h1.2
  · rw [nbeq hj]
    exact hF.t j
theorem op_move_pv {o : Oper} {σ : AS} {x : Operand} (ho : o.op = .move x) {m : Nat} {v : Value} (hx : σ.ev x = .pv m v) (hd : dOk o N = true) : OpS P N w0 U0 o σ ⟨o.dst.map fun d => (d, .pt m 0), [], [], []⟩ :=
  opS_still hd fun σ' hok a w F hF => by
    obtain ⟨e, b, h2, h3⟩ := ev_get hok hF (by simp [ho, Op.operands]) hx
    exact ⟨a.eval x, by simp [execOp, ho], b, h2, e.trans h3⟩
theorem op_move_pw {o : Oper} {σ : AS} {x : Operand} (ho : o.op = .move x) {m : Nat} {v : Value} (hx : σ.ev x = .pw m v) (hd : dOk o N = true) : OpS P N w0 U0 o σ ⟨o.dst.map fun d => (d, .ow m), [], [], []⟩ :=
  opS_still hd fun σ' hok a w F hF => by
    obtain ⟨e, h2⟩ := ev_get hok hF (by simp [ho, Op.operands]) hx
    exact ⟨a.eval x, by simp [execOp, ho], e.trans h2⟩
theorem s_field_pv {o : Oper} {σ : AS} {s : TypeId} {x : Operand} {f : Nat} (ho : o.op = .fieldAddr s x f) {fs : Array Field} (hu : P.underlying s = some (.struct fs)) {fd : Field} (hf : fs[f]? = some fd) {z : Value} {sz b : Nat} (hi : TI P fd.type z sz b) (hz : Nat.blt 0 sz = true)
    {m : Nat} {v : Value} (hx : σ.ev x = .pv m v) (hd : dOk o N = true) : OpS P N w0 U0 o σ ⟨o.dst.map fun d => (d, .pt m fd.offset), [], [], []⟩ :=
  opS_still hd fun σ' hok a w F hF => by
    obtain ⟨i, g1, _, g3, _⟩ := hi
    have hzz := Nat.le_of_ble_eq_true hz
    obtain ⟨e, b, h1, h3⟩ := ev_get hok hF (x := x) (by simp [ho, Op.operands]) hx
    have h2 := e.trans h3
    refine ⟨.pointer (some ⟨b, fd.offset, none⟩), ?_, b, h1, rfl⟩
    simp [execOp, ho, h2, Instr.fieldAt, run_underlying hu, hf, Instr.sureAddr, fieldPlace, sizeOf, typeInfo, g1, show i.size ≠ 0 by omega, add_plain']
theorem dr_upd {ops : Array Oper} {k : Nat} {o : Oper} {L : List (Nat × AV)} {M : List (Nat × Ob)} {R : AS → Prop} {σ0 : AS} {sk : List Sk} {d : Nat} {v : AV} {nw : List (Nat × Ob)} {rn : List Nat} (ho : ops[k]? = some o) (h : OpG P N w0 U0 ops o (SS L M) ⟨some (d, v), nw, rn, []⟩) (hr : DR P N w0 U0 ops σ0 (k + 1) (sk ++ [⟨some d, nw.map (·.1), rn, [], v.names⟩]) (SS ((d, v) :: L) (nw ++ M)) R) : DR P N w0 U0 ops σ0 k sk (SS L M) R :=
  dr_step ho h (by rw [ap_ss]; exact hr)
end
end Go.Proofs.Yteplcjhnmmpicaa.Av
