/- Ranges over a function: rules for states of data. Conditions: as each theorem names them. -/
import Derived.Test.YtipkielpicfobaaAvF
import Derived.RangeFuncIn
import Derived.RangeFuncLeaves
import Derived.RangeFuncRecord
import Derived.RangeFuncSeq
set_option linter.unusedSimpArgs false
set_option linter.unusedVariables false
namespace Go.Proofs.Ytipkielpicfobaa.Av
open Go Go.RowKit
def zeroO : Ob → Bool
  | .ow .. => false
  | .pin .. => false
  | _ => true
theorem Rob.zero0 {B : Nat} {w : World} {F : Fr} {m : Nat} {o : Ob} (hz : zeroO o = true) (hl : o.live = true) (h : Rob B w F m o) {b : Nat} (hb : F.S m b) : F.U b = 0 := by
  cases o with
  | no => cases hl
  | bx ty cs => obtain ⟨b', vs, _, _, h3, _, _, h6⟩ := h; rw [(h6 b).1 hb]; exact h3
  | ow e z rows => cases hz
  | tr e z rows =>
    obtain ⟨xs, T, h1, h2, _, h4, h5⟩ := h
    rcases (h5 b).1 hb with h6 | ⟨k, h6⟩
    · exact (h4 b h6).1
    · exact h2.zero h6
  | bt ty cs =>
    obtain ⟨b', vs, T, _, _, h3, _, h5, _, h7⟩ := h
    rcases (h7 b).1 hb with h6 | ⟨k, h6⟩
    · rw [h6]; exact h3
    · exact h5.zero h6
  | sv cs =>
    obtain ⟨vs, T, _, h2, h3⟩ := h
    obtain ⟨k, h6⟩ := (h3 b).1 hb
    exact h2.zero h6
  | mp ents => obtain ⟨b', es, c, _, _, h3, _, _, h6, _⟩ := h; rw [(h6 b).1 hb]; exact h3
  | it s p => obtain ⟨b', _, _, h3, _, h6⟩ := h; rw [(h6 b).1 hb]; exact h3
  | mi left cur => obtain ⟨b', _, _, _, _, _, _, _, _, h3, _, h6, _⟩ := h; rw [(h6 b).1 hb]; exact h3
  | pin H V Q => cases hz
structure Sm (w w' : World) : Prop where
  os : w'.os = w.os
  tape : w'.tape = w.tape
  output : w'.output = w.output
theorem Sm.refl (w : World) : Sm w w := ⟨rfl, rfl, rfl⟩
theorem Sm.trans {a b c : World} (h : Sm a b) (k : Sm b c) : Sm a c := ⟨k.os.trans h.os, k.tape.trans h.tape, k.output.trans h.output⟩
theorem Sm.symm {a b : World} (h : Sm a b) : Sm b a := ⟨h.os.symm, h.tape.symm, h.output.symm⟩
theorem Sm.of {B : Nat} {a b : World} (h : Below B a b) : Sm a b := ⟨h.os, h.tape, h.output⟩
theorem Sm.below {B : Nat} {a b : World} (h : Sm a b) (hb : ∀ k, k < B → b.heap[k]? = a.heap[k]?) (hs : a.heap.size ≤ b.heap.size) : Below B a b := ⟨h.os, h.tape, h.output, hs, hb⟩
structure Iter (P : Program) (xs : List DV) (stop : Nat → Bool) (l : Nat) (Z : Nat → Prop) (J : Nat → World → (Nat → Nat) → (Nat → Prop) → Prop) : Prop where
  own : ∀ k W U T, J k W U T → ∀ b, T b → b < W.heap.size ∧ U b = 0
  far : ∀ k W U T, J k W U T → ∀ b, Z b → b < W.heap.size ∧ ¬ T b
  keep : ∀ k W U T W' U', J k W U T → Sm W W' → (∀ b, b < W.heap.size → (Z b ∨ T b ∨ 0 < U b) → W'.heap[b]? = W.heap[b]? ∧ U' b = U b) → J k W' U' T
  yield : ∀ k W U T v x, J k W U T → xs[k]? = some x → (∀ i, i < k → stop i = false) → Rd W U v x → YieldAt Fence.wide 0 P l #[v] W fun e W' => e = .returned (.bool (!stop k)) ∧ ∃ U' T', J (k + 1) W' U' T' ∧ Sm W W' ∧ (∀ b, b < W.heap.size → ¬ T b → W'.heap[b]? = W.heap[b]? ∧ U' b = U b) ∧ (∀ b, T' b → T b ∨ W.heap.size ≤ b)
def EndAt (xs : List DV) (stop : Nat → Bool) (k : Nat) : Prop := (k = xs.length ∧ ∀ i, i < k → stop i = false) ∨ (∃ j, k = j + 1 ∧ j < xs.length ∧ stop j = true ∧ ∀ i, i < j → stop i = false)
def SeqD (P : Program) (gf : FuncId) (caps : List DV) (xs : List DV) : Prop :=
  ∀ (stop : Nat → Bool) (l : Nat) (Z : Nat → Prop) (J : Nat → World → (Nat → Nat) → (Nat → Prop) → Prop) (W : World) (U : Nat → Nat) (T : Nat → Prop) (vs : List Value), Iter P xs stop l Z J → Rds W U vs caps → J 0 W U T →
    Calls P gf ((.func (.yield l) #[] #[] :: vs).toArray) W fun e W' => (∃ v, e = .returned v) ∧ ∃ k U' T', J k W' U' T' ∧ EndAt xs stop k
/-! ### the iterator's side -/
def ItP (Z : Nat → Prop) (J : Nat → World → (Nat → Nat) → (Nat → Prop) → Prop) (B : World) (k : Nat) (H : World) (V : Nat → Nat) (Q : Nat → Prop) : Prop :=
  ∃ T, J k H V T ∧ Sm B H ∧ ∀ b, b < H.heap.size → (Z b ∨ T b ∨ 0 < V b) → Q b
structure RGI (P : Program) (N : Nat) (w0 : World) (U0 : Nat → Nat) (ops : Array Oper) (k : Nat) (σ : AS) (R : AS → Prop) : Prop where
  go : ∀ (rd : Option Nat) (ds : List Deferred) a w, St N w0 U0 σ a w → ∀ Q, (∀ σ' a' w', R σ' → St N w0 U0 σ' a' w' → Q Exit.normal (dfs a' ds) w') → wpOpsIn (FnR rd) 0 P ops Q ((List.range (ops.size - k)).map (· + k)) (dfs a ds) w
theorem range_step {ops : Array Oper} {k : Nat} (hlt : k < ops.size) : ((List.range (ops.size - k)).map (· + k)) = k :: ((List.range (ops.size - (k + 1))).map (· + (k + 1))) := by
  rw [show ops.size - k = (ops.size - (k + 1)) + 1 by omega, List.range_succ_eq_map]
  simp only [List.map_cons, Nat.zero_add, List.map_map, List.cons.injEq, true_and]
  apply List.map_congr_left
  intro x _
  show x + 1 + k = x + (k + 1)
  omega
theorem wpOpsIn_mono {F : Fence} {n : Nat} {P : Program} {ops : Array Oper} {Q Q' : Exit → Act → World → Prop} (h : ∀ e a w, Q e a w → Q' e a w) : ∀ (l : List Nat) (a : Act) (w : World), wpOpsIn F n P ops Q l a w → wpOpsIn F n P ops Q' l a w := by
  intro l
  induction l with
  | nil => intro a w hh; exact h _ _ _ hh
  | cons i rest ih =>
    intro a w hh
    rw [wpOpsIn_cons] at hh ⊢
    have h2 := wpOpIn_mono ih hh
    unfold wpOpIn at h2 ⊢
    cases ho : ops[i]? with
    | none => rw [ho] at h2; exact h2
    | some o =>
      rw [ho] at h2
      simp only at h2 ⊢
      by_cases hw : Region.wanted o (yielded ops a.tmps) = true
      · rw [if_pos hw] at h2 ⊢
        refine ⟨h2.1, ?_⟩
        have h3 := h2.2
        generalize (o.semAt F.round a.eval).run P w = x at h3 ⊢
        have hlo : LetsOut Q → LetsOut Q' := fun ⟨a1, w1, hq⟩ => ⟨a1, w1, h _ _ _ hq⟩
        cases x with
        | ok n w' =>
          cases n <;> first
            | exact h3
            | exact ⟨h3.1, CallsIn.mono h3.2 (fun e w'' he => by cases e <;> first | exact he | exact h _ _ _ he | exact hlo he)⟩
            | exact ⟨h3.1, RoundIn.mono h3.2 (fun e w'' he => by cases e <;> first | exact he | exact h _ _ _ he | exact hlo he)⟩
        | halt x w' => cases x <;> first | exact h _ _ _ h3 | exact h3
      · rw [if_neg hw] at h2 ⊢
        exact h2
section
variable {P : Program} {N : Nat} {w0 : World} {U0 : Nat → Nat}
theorem ri_of {ops : Array Oper} {k : Nat} {σ : AS} {R : AS → Prop} (h : RG P N w0 U0 ops k σ R) : RGI P N w0 U0 ops k σ R := by
  refine ⟨fun rd ds a w hs Q hQ => ?_⟩
  have h1 := h.go a w hs (fun e a' w' => e = .normal ∧ ∃ σ', R σ' ∧ St N w0 U0 σ' a' w') (fun σ' a' w' hr hs' => ⟨rfl, σ', hr, hs'⟩)
  have h2 := wpOps_noQ (fun e a w hq => ⟨hq.1, by obtain ⟨_, σ', _, hs'⟩ := hq; exact hs'.d⟩) _ rd ds a w hs.d h1
  refine wpOpsIn_mono (fun e a' w' hh => ?_) _ _ _ h2
  obtain ⟨b, _, rfl, rfl, σ', hk, hs'⟩ := hh
  exact hQ σ' b w' hk hs'
theorem ri_step {ops : Array Oper} {k : Nat} {o : Oper} {σ : AS} {e : Eff} {R : AS → Prop} (ho : ops[k]? = some o) (h : OpG P N w0 U0 ops o σ e) (hf : ∀ m ∈ e.fr, fresh σ m) (hr : RGI P N w0 U0 ops (k + 1) (e.ap σ) R) : RGI P N w0 U0 ops k σ R := by
  refine ⟨fun rd ds a w hs Q hQ => ?_⟩
  rw [range_step (Array.getElem?_eq_some_iff.1 ho).1, wpOpsIn_cons]
  have h1 := opG_run (K := fun a' w' => St N w0 U0 (e.ap σ) a' w') (Q := fun _ _ _ => False) ho h ⟨fun _ _ => rfl, fun _ _ => rfl, hf⟩ hs (fun a' w' hs' => hs')
  refine wpOpIn_mono (fun a' w' hh => ?_) (wpOp_in (Q' := Q) (fun _ _ _ h => h) (fun a' w' hs' => hs'.d) hs.d rd ds h1)
  obtain ⟨b, _, rfl, hs'⟩ := hh
  exact hr.go rd ds b w' hs' Q hQ
variable {ops : Array Oper} {k : Nat} {o : Oper} {L : List (Nat × AV)} {M : List (Nat × Ob)} {R : AS → Prop}
theorem ri_put {d : Nat} {v : AV} {rn : List Nat} (ho : ops[k]? = some o) (h : OpG P N w0 U0 ops o (SS L M) ⟨some (d, v), [], rn, []⟩) (hr : RGI P N w0 U0 ops (k + 1) (SS ((d, v) :: L) M) R) : RGI P N w0 U0 ops k (SS L M) R :=
  ri_step ho h (fun m hm => by cases hm) (by rw [ap_ss]; exact hr)
theorem a_regionI {id : Nat} {R : Exit → AS → Prop} {σ : AS} (h : RGI P N w0 U0 ops 0 σ (R .normal)) : A P N w0 U0 (.region id ops false) R σ := by
  refine ⟨fun rd ds a w hs Q hQ => wpIn_region ?_⟩
  have h2 := h.go rd ds a w hs Q (fun σ' a' w' hr hs' => hQ _ _ _ _ hr hs')
  simpa using h2
theorem a_rseqI {id : Nat} {y : Code} {R : Exit → AS → Prop} {σ : AS} (h : RGI P N w0 U0 ops 0 σ (A P N w0 U0 y R)) : A P N w0 U0 (.seq (.region id ops false) y) R σ := a_seq (a_regionI h)
def repL (m : Nat) (o : Ob) : List (Nat × Ob) → List (Nat × Ob)
  | [] => []
  | (k, o') :: l => (k, bif Nat.beq k m then o else o') :: repL m o l
theorem ln_repL {m : Nat} {o : Ob} : ∀ (M : List (Nat × Ob)) (j : Nat), ln M m ≠ .no → ln (repL m o M) j = if j = m then o else ln M j := by
  intro M
  induction M with
  | nil => intro j h; exact absurd rfl h
  | cons x M ih =>
    obtain ⟨k, o'⟩ := x
    intro j h
    show (bif Nat.beq k j then (bif Nat.beq k m then o else o') else ln (repL m o M) j) = if j = m then o else (bif Nat.beq k j then o' else ln M j)
    have h' : (bif Nat.beq k m then o' else ln M m) ≠ .no := h
    by_cases hkm : k = m
    · subst hkm
      rw [Nat.beq_refl, cond_true]
      by_cases hj : k = j
      · subst hj; rw [Nat.beq_refl, cond_true, if_pos rfl]
      · rw [nbeq hj, cond_false, cond_false, if_neg (Ne.symm hj)]
        by_cases hM : ln M k = .no
        · clear ih h h'
          have : ∀ M : List (Nat × Ob), ln (repL k o M) j = ln M j := by
            intro M
            induction M with
            | nil => rfl
            | cons y M ih2 =>
              obtain ⟨q, oq⟩ := y
              show (bif Nat.beq q j then (bif Nat.beq q k then o else oq) else ln (repL k o M) j) = (bif Nat.beq q j then oq else ln M j)
              by_cases hq : q = j
              · subst hq
                rw [Nat.beq_refl, cond_true, cond_true, nbeq (fun e => hj e.symm), cond_false]
              · rw [nbeq hq, cond_false, cond_false, ih2]
          exact this M
        · rw [ih j hM, if_neg (Ne.symm hj)]
    · rw [nbeq hkm] at h' ⊢
      rw [cond_false] at h' ⊢
      by_cases hj : k = j
      · subst hj; rw [Nat.beq_refl, cond_true, cond_true, if_neg hkm]
      · rw [nbeq hj, cond_false, cond_false]; exact ih j h'
theorem ri_yield {xs : List DV} {stop : Nat → Bool} {l : Nat} {Z : Nat → Prop} {J : Nat → World → (Nat → Nat) → (Nat → Prop) → Prop} (hI : Iter P xs stop l Z J) {g y : Operand} {ats : Array TypeId} {x : DV} {d : Nat} {q : Nat} {H : World} {V : Nat → Nat} {Q0 : Nat → Prop}
    (ho : ops[k]? = some o) (hop : o.op = .call { callee := .value g, args := #[y], argTypes := ats }) (hd : o.dst = some d) (hdN : dOk o N = true)
    (hgd : o.guard = none ∨ ∃ j e, o.guard = some (j, true) ∧ ((ops[j]?).bind (·.dst)) = some e ∧ lk L e = .d (.fl (.bool true)))
    (hg : (SS L M).ev g = .d (.fl (.func (.yield l) #[] #[]))) (hy : (SS L M).ev y = .d x) (hx : xs[q]? = some x) (hst : ∀ i, i < q → stop i = false) (hp : ln M 0 = .pin H V Q0) (hP : ItP Z J w0 q H V Q0) (hw0 : w0.heap.size = 0) (hz : (M.all fun mo => Nat.beq mo.1 0 || zeroO mo.2) = true)
    (hr : ∀ H' V' Q', ItP Z J w0 (q + 1) H' V' Q' → RGI P N w0 U0 ops (k + 1) (SS ((d, .d (.fl (.bool (!stop q)))) :: L) (repL 0 (.pin H' V' Q') M)) R) : RGI P N w0 U0 ops k (SS L M) R := by
  refine ⟨fun rd ds a w hs Q hQ => ?_⟩
  rw [range_step (Array.getElem?_eq_some_iff.1 ho).1, wpOpsIn_cons]
  obtain ⟨F, hF⟩ := hs.f
  obtain ⟨T, hJ, hB, hQ0⟩ := hP
  have hpin : Rob w0.heap.size w F 0 (.pin H V Q0) := by have := hF.n 0; rwa [show (SS L M).n 0 = _ from hp] at this
  obtain ⟨hS0, hpin⟩ := hpin
  have hT0 : ∀ b, T b → Q0 b := fun b hb => hQ0 b (hI.own _ _ _ _ hJ b hb).1 (.inr (.inl hb))
  have hZ0 : ∀ b, Z b → Q0 b := fun b hb => hQ0 b (hI.far _ _ _ _ hJ b hb).1 (.inl hb)
  have hJw : J q w F.U T := hI.keep _ _ _ _ _ _ hJ (hB.symm.trans (Sm.of hs.b)) (fun b hb hh => by
    obtain ⟨_, _, h3, h4⟩ := hpin b (hQ0 b hb hh)
    exact ⟨h3, h4⟩)
  have hzz : ∀ m, m ≠ 0 → ((SS L M).n m).live = true → zeroO ((SS L M).n m) = true := by
    intro m hm
    clear hr hpin hp hF hJw hJ hs hg hy
    induction M with
    | nil => intro h; cases h
    | cons mo M ih =>
      obtain ⟨j, oj⟩ := mo
      intro h
      have h' : (bif Nat.beq j m then oj else ln M m).live = true := h
      show zeroO (bif Nat.beq j m then oj else ln M m) = true
      simp only [List.all_cons, Bool.and_eq_true, Bool.or_eq_true] at hz
      by_cases hj : j = m
      · subst hj
        rw [Nat.beq_refl]
        rcases hz.1 with h1 | h1
        · exact absurd (Nat.eq_of_beq_eq_true h1) hm
        · exact h1
      · rw [nbeq hj] at h' ⊢
        exact ih hz.2 h'
  have hlive0 : ((SS L M).n 0).live = true := by rw [show (SS L M).n 0 = _ from hp]; rfl
  have hdis : ∀ m b, m ≠ 0 → ((SS L M).n m).live = true → F.S m b → ¬ Q0 b := fun m b hm hl hb hq => hm (hF.i m 0 b hl hlive0 hb ((hS0 b).2 hq))
  have hav : Rav w F (.d x) (a.eval y) := by have := hF.ev y; rwa [hy] at this
  have hgv : a.eval g = .func (.yield l) #[] #[] := by
    have := hF.ev g
    rw [hg] at this
    generalize a.eval g = u at this ⊢
    cases this
    rfl
  obtain ⟨fn, tmps, assign, body, hrun, hround⟩ := hI.yield q w F.U T (a.eval y) x hJw hx hst hav
  have hwant : Region.wanted o (yielded ops a.tmps) = true := by
    rcases hgd with h | ⟨j, e, h1, h2, h3⟩
    · simp [Region.wanted, h]
    · have hv : a.tmps.getD e undef = .bool true := by
        have := hF.t e
        rw [show (SS L M).t e = _ from h3] at this
        generalize a.tmps.getD e undef = u at this ⊢
        cases this
        rfl
      have hyd : yielded ops a.tmps j = some true := by
        unfold yielded
        rw [h2]
        simp only [Option.bind_some]
        rw [Array.getD_eq_getD_getElem?] at hv
        cases hq : a.tmps[e]? with
        | none => rw [hq] at hv; simp [undef] at hv
        | some u => rw [hq] at hv; simp at hv; subst hv; rfl
      simp [Region.wanted, h1, hyd]
  unfold wpOpIn
  rw [ho]
  simp only
  show if Region.wanted o (yielded ops a.tmps) = true then _ else _
  rw [if_pos hwant]
  refine ⟨fun _ _ => trivial, ?_⟩
  have hnd : ∀ c, o.op ≠ .defer c := fun c hc => by rw [hop] at hc; cases hc
  rw [Oper.semAt_eq _ _ _ hnd]
  have hex : (execOp (dfs a ds).eval o).run P w = .ok (.round l fn tmps assign body) w := by
    have he : (dfs a ds).eval = a.eval := rfl
    rw [he]
    unfold execOp
    simp only [hop, resolve, hgv, Deferred.ofValue, invoke, Sem.run_bind, Sem.run_pure, Result.andThen_ok]
    simpa using hrun
  rw [hex, Oper.uponIn_round]
  refine ⟨fun h => (by cases h), RoundIn.mono (F := Fence.wide) hround ?_⟩
  rintro e W' ⟨rfl, U', T', hJ', hSm, hfix, hnew⟩
  have hE : Ext w F.U W' U' := by
    refine ⟨fun b off u hc ho2 => ?_, fun r es c hq hu => ?_⟩
    · have hlt := World.block_lt_of_cell? w _ hc
      have hnT : ¬ T b := fun hb => by have := (hI.own _ _ _ _ hJw b hb).2; omega
      obtain ⟨g1, g2⟩ := hfix b hlt hnT
      exact ⟨(World.cell?_of_block g1).trans hc, by rw [g2]; exact ho2⟩
    · have hlt : r < w.heap.size := (Array.getElem?_eq_some_iff.1 hq).1
      have hnT : ¬ T r := fun hb => by have := (hI.own _ _ _ _ hJw r hb).2; omega
      exact hfix r hlt hnT
  have hownT : ∀ m b, m ≠ 0 → ((SS L M).n m).live = true → F.S m b → ¬ T b := fun m b hm hl hb ht => hdis m b hm hl hb (hT0 b ht)
  let Q' : Nat → Prop := fun b => b < W'.heap.size ∧ ∀ m, m ≠ 0 → ((SS L M).n m).live = true → ¬ F.S m b
  have hP' : ItP Z J w0 (q + 1) W' U' Q' := by
    refine ⟨T', hJ', (Sm.of hs.b).trans hSm, fun b hb hh => ⟨hb, fun m hm hl hSb => ?_⟩⟩
    have hlt := ((hF.n m).lt hl hSb).2
    rcases hh with h | h | h
    · exact hdis m b hm hl hSb (hZ0 b h)
    · rcases hnew b h with h | h
      · exact hownT m b hm hl hSb h
      · omega
    · have h1 := (hfix b hlt (hownT m b hm hl hSb)).2
      have h2 := (hF.n m).zero0 (hzz m hm hl) hl hSb
      omega
  show wpOpsIn (FnR rd) 0 P ops Q (List.map (fun x => x + (k + 1)) (List.range (ops.size - (k + 1)))) ((dfs a ds).put o.dst (.bool (!stop q))) W'
  rw [put_dfs]
  refine (hr W' U' Q' hP').go rd ds (a.put o.dst (.bool (!stop q))) W' ?_ Q hQ
  have hln : ∀ j, ln (repL 0 (.pin W' U' Q') M) j = if j = 0 then .pin W' U' Q' else ln M j := fun j => ln_repL M j (by rw [hp]; simp)
  let F' : Fr := ⟨F.β, F.γ, U', fun m b => if m = 0 then Q' b else F.S m b⟩
  refine ⟨by rw [put_defers]; exact hs.d, by rw [put_size]; exact hs.s, ?_, F', ?_⟩
  · exact ((Sm.of hs.b).trans hSm).below (fun b hb => by omega) (by omega)
  · refine ⟨fun b hb => by omega, fun t => ?_, fun m => ?_, fun m m' b h1 h2 h3 h4 => ?_⟩
    · rw [hd]
      show Rav W' F' (bif Nat.beq d t then AV.d (.fl (.bool (!stop q))) else lk L t) ((a.tmps.setIfInBounds d (.bool (!stop q))).getD t undef)
      by_cases hdt : d = t
      · subst hdt
        rw [Nat.beq_refl]
        have hdlt : d < a.tmps.size := by
          rw [hs.s]
          unfold dOk at hdN
          rw [hd] at hdN
          simpa using hdN
        rw [Array.getD_eq_getD_getElem?, Array.getElem?_setIfInBounds_self_of_lt hdlt]
        exact Rd.fl _
      · rw [nbeq hdt]
        have h6 := hF.t t
        have h5 : (a.tmps.setIfInBounds d (.bool (!stop q))).getD t undef = a.tmps.getD t undef := by
          simp [Array.getElem?_setIfInBounds_ne hdt]
        rw [h5]
        have h7 : Rav W' { F with U := U' } (lk L t) (a.tmps.getD t undef) := Rav.ext (F := F) hE h6
        generalize lk L t = z at h7 ⊢
        generalize a.tmps.getD t undef = u at h7 ⊢
        cases z <;> exact h7
    · show Rob w0.heap.size W' F' m (ln (repL 0 (.pin W' U' Q') M) m)
      rw [hln]
      by_cases hm : m = 0
      · subst hm
        rw [if_pos rfl]
        exact ⟨fun b => by simp [F'], fun b hq => ⟨by omega, hq.1, rfl, rfl⟩⟩
      · rw [if_neg hm]
        have h1 := hF.n m
        have h1' : Rob w0.heap.size w F m (ln M m) := h1
        cases hlv : (ln M m).live with
        | false =>
          cases hob : ln M m with
          | no => trivial
          | _ => rw [hob] at hlv; cases hlv
        | true =>
          have h2 : Rob w0.heap.size W' { F with U := U' } m (ln M m) := Rob.ext hE (fun b hb hlt => hfix b hlt (hownT m b hm hlv hb)) h1'
          exact h2.same rfl rfl (fun b => by simp [F', hm]) rfl
    · have e1 : ((SS ((d, .d (.fl (.bool (!stop q)))) :: L) (repL 0 (.pin W' U' Q') M)).n m) = if m = 0 then .pin W' U' Q' else ln M m := hln m
      have e2 : ((SS ((d, .d (.fl (.bool (!stop q)))) :: L) (repL 0 (.pin W' U' Q') M)).n m') = if m' = 0 then .pin W' U' Q' else ln M m' := hln m'
      rw [e1] at h1
      rw [e2] at h2
      by_cases hm : m = 0
      · by_cases hm' : m' = 0
        · rw [hm, hm']
        · exfalso
          rw [if_neg hm'] at h2
          have h5 : Q' b := by simpa [F', hm] using h3
          have h6 : F.S m' b := by simpa [F', hm'] using h4
          exact h5.2 m' hm' h2 h6
      · by_cases hm' : m' = 0
        · exfalso
          rw [if_neg hm] at h1
          have h5 : Q' b := by simpa [F', hm'] using h4
          have h6 : F.S m b := by simpa [F', hm] using h3
          exact h5.2 m hm h1 h6
        · rw [if_neg hm] at h1
          rw [if_neg hm'] at h2
          exact hF.i m m' b h1 h2 (by simpa [F', hm] using h3) (by simpa [F', hm'] using h4)
def retI (P : Program) (xs : List DV) (stop : Nat → Bool) (Z : Nat → Prop) (J : Nat → World → (Nat → Nat) → (Nat → Prop) → Prop) (B : World) : Exit → AS → Prop
  | .normal, σ | .ret, σ => ∃ k H V Q, σ.n 0 = .pin H V Q ∧ ItP Z J B k H V Q ∧ EndAt xs stop k
  | _, _ => False
theorem seqD {gf : FuncId} {fn : Func} {c : Code} {caps xs : List DV} {n : Nat} {L : List (Nat × AV)} (hf : P.funcs[gf]? = some fn) (hb : fn.body = some c) (hn : fn.ntmps = n) (hrs : fn.results = #[]) (hl : Nat.ble (caps.length + 1) n = true) (hL : args0 caps 1 = L)
    (h : ∀ (w0 : World) U0 stop l Z J H V Q, w0.heap.size = 0 → Iter P xs stop l Z J → ItP Z J w0 0 H V Q → A P n w0 U0 c (retI P xs stop Z J w0) (SS ((0, .d (.fl (.func (.yield l) #[] #[]))) :: L) [(0, .pin H V Q)])) : SeqD P gf caps xs := by
  subst hn
  subst hL
  intro stop l Z J W U T vs hI hR hJ
  have hle := Nat.le_of_ble_eq_true hl
  have hsz : ((.func (.yield l) #[] #[] :: vs).toArray ++ Array.replicate (fn.ntmps - (Value.func (.yield l) #[] #[] :: vs).toArray.size) undef).size = fn.ntmps := by have := hR.1; simp; omega
  let F : Fr := ⟨fun _ => none, fun _ => undef, U, fun j g => j = 0 ∧ g < W.heap.size⟩
  have hget : ∀ t, ((.func (.yield l) #[] #[] :: vs).toArray ++ Array.replicate (fn.ntmps - (Value.func (.yield l) #[] #[] :: vs).toArray.size) undef).getD t undef = if t = 0 then .func (.yield l) #[] #[] else if h : t - 1 < vs.length then vs[t - 1] else undef := by
    intro t
    cases t with
    | zero =>
      rw [Array.getD_eq_getD_getElem?, Array.getElem?_append_left (by simp)]
      simp
    | succ t =>
      rw [Array.getD_eq_getD_getElem?]
      rcases Nat.lt_or_ge t vs.length with ht | ht
      · rw [Array.getElem?_append_left (by simp; omega)]
        simp [ht]
      · rw [Array.getElem?_append_right (by simp; omega), Array.getElem?_replicate]
        simp only [Nat.add_one_ne_zero, if_false]
        rw [dif_neg (by omega)]
        split <;> rfl
  have hfit : Fits (bare W) U (SS ((0, .d (.fl (.func (.yield l) #[] #[]))) :: args0 caps 1) [(0, .pin W U (fun g => g < W.heap.size))]) ⟨(.func (.yield l) #[] #[] :: vs).toArray ++ Array.replicate (fn.ntmps - (Value.func (.yield l) #[] #[] :: vs).toArray.size) undef, []⟩ W F := by
    refine ⟨fun b hb => rfl, fun t => ?_, fun m => ?_, fun m m' b h1 h2 h3 h4 => ?_⟩
    · show Rav W F (bif Nat.beq 0 t then _ else lk (args0 caps 1) t) _
      rw [hget]
      cases t with
      | zero => rw [Nat.beq_refl, if_pos rfl]; exact Rd.fl _
      | succ t =>
        rw [nbeq (by omega), cond_false, args0_get, if_neg (by omega)]
        split
        · rename_i ht
          have hl := hR.1
          have ht' : t < caps.length := by have := ht.2; omega
          simp only [Nat.add_sub_cancel]
          rw [dif_pos (by omega)]
          exact hR.2 t _ _ (List.getElem?_eq_getElem (by omega)) (List.getElem?_eq_getElem ht')
        · trivial
    · show Rob 0 W F m (bif Nat.beq 0 m then .pin W U _ else .no)
      by_cases h0 : m = 0
      · subst h0
        rw [Nat.beq_refl]
        exact ⟨fun b => by simp [F], fun b hq => ⟨Nat.zero_le _, hq, rfl, rfl⟩⟩
      · rw [nbeq (Ne.symm h0), cond_false]; trivial
    · exact (h3.1).trans h4.1.symm
  refine calls_of_wp hf hb ((h (bare W) U stop l Z J W U (fun g => g < W.heap.size) rfl hI ⟨T, hJ, ⟨rfl, rfl, rfl⟩, fun b hb _ => hb⟩).go _ W ⟨rfl, hsz, ⟨rfl, rfl, rfl, Nat.zero_le _, fun k hk => by have : k < 0 := hk; omega⟩, F, hfit⟩ _ (fun e σ' a' w' hr hs' => ?_))
  have key : (∃ k H V Q, σ'.n 0 = .pin H V Q ∧ ItP Z J (bare W) k H V Q ∧ EndAt xs stop k) → a'.defers = [] ∧ ∃ x, (results fn a'.tmps).run P w' = .ok x w' ∧ ((∃ v, Ending.returned x = .returned v) ∧ ∃ k U' T', J k w' U' T' ∧ EndAt xs stop k) := by
    rintro ⟨k, H, V, Q, h1, ⟨T', hJ', hB', hQ'⟩, hend⟩
    obtain ⟨F', hF'⟩ := hs'.f
    have hp := hF'.n 0
    rw [h1] at hp
    obtain ⟨_, hp⟩ := hp
    refine ⟨hs'.d, .tuple #[], ?_, ⟨_, rfl⟩, k, F'.U, T', ?_, hend⟩
    · unfold results
      rw [hrs, Array.mapM_eq_mapM_toList]
      rfl
    · exact hI.keep _ _ _ _ _ _ hJ' (hB'.symm.trans (Sm.of hs'.b)) (fun b hb hh => by
        obtain ⟨_, _, h3, h4⟩ := hp b (hQ' b hb hh)
        exact ⟨h3, h4⟩)
  cases e with
  | normal => exact key hr
  | ret => exact key hr
  | _ => exact hr.elim
/-! ### the caller's side -/
def MK : Nat := 999
def markD (D : Nat) : Deferred := { target := .collected D, args := #[] }
def Mkd (σ : AS) (ds : List Deferred) : Prop := ds = [] ∨ ∃ D H V Q, ds = [markD D] ∧ σ.n MK = .pin H V Q ∧ Q D ∧ H.heap[D]? = some (.deferred (some []))
def StM (N : Nat) (w0 : World) (U0 : Nat → Nat) (σ : AS) (a : Act) (w : World) : Prop := ∃ b ds, a = dfs b ds ∧ St N w0 U0 σ b w ∧ Mkd σ ds
structure B (P : Program) (N : Nat) (w0 : World) (U0 : Nat → Nat) (c : Code) (R : Exit → AS → Prop) (σ : AS) : Prop where
  go : ∀ a w, St N w0 U0 σ a w → ∀ Q, (∀ e σ' a' w', R e σ' → StM N w0 U0 σ' a' w' → Q e a' w') → c.wpIn (FnR none) 0 P Q a w
theorem b_seqA {x y : Code} {R : Exit → AS → Prop} {σ : AS} (h : A P N w0 U0 x (thenR (B P N w0 U0 y R) R) σ) : B P N w0 U0 (.seq x y) R σ := by
  refine ⟨fun a w hs Q hQ => ?_⟩
  refine wpIn_seq ?_
  have h2 := h.goR none [] a w hs (Exit.then (y.wpIn (FnR none) 0 P Q) Q) (fun e σ' a' w' hr hs' => by
    cases e with
    | normal =>
      rw [dfs_self hs'.d]
      exact B.go hr a' w' hs' Q hQ
    | _ => exact hQ _ σ' _ w' hr ⟨a', [], rfl, hs', .inl rfl⟩)
  rwa [dfs_self hs.d] at h2
theorem b_rseq {id : Nat} {y : Code} {R : Exit → AS → Prop} {σ : AS} (h : RG P N w0 U0 ops 0 σ (B P N w0 U0 y R)) : B P N w0 U0 (.seq (.region id ops false) y) R σ := b_seqA (a_region h)
def kp (σ : AS) (R : Exit → AS → Prop) : Exit → AS → Prop := fun e σ' => R e σ' ∧ σ'.n MK = σ.n MK
theorem b_seqB {x y : Code} {R : Exit → AS → Prop} {σ : AS} (h : B P N w0 U0 x (thenR (fun σ' => A P N w0 U0 y (kp σ' R) σ') R) σ) : B P N w0 U0 (.seq x y) R σ := by
  refine ⟨fun a w hs Q hQ => ?_⟩
  refine wpIn_seq (h.go a w hs _ (fun e σ' a' w' hr hs' => ?_))
  cases e with
  | normal =>
    obtain ⟨b, ds, rfl, hs2, hm⟩ := hs'
    refine A.goR hr none ds b w' hs2 Q (fun e σ'' a'' w'' hr2 hs3 => hQ e σ'' _ w'' hr2.1 ⟨a'', ds, rfl, hs3, ?_⟩)
    rcases hm with hm | ⟨D, H, V, Q1, h1, h2, h3⟩
    · exact .inl hm
    · exact .inr ⟨D, H, V, Q1, h1, hr2.2.trans h2, h3⟩
  | _ => exact hQ _ _ _ _ hr hs'
theorem b_block {id : Nat} {c : Code} {R : Exit → AS → Prop} {σ : AS} (h : B P N w0 U0 c (inBlk id R) σ) : B P N w0 U0 (.block id c) R σ := by
  refine ⟨fun a w hs Q hQ => ?_⟩
  refine wpIn_block (h.go a w hs _ (fun e σ' a' w' hr hs' => ?_))
  cases e with
  | exit id' =>
    simp only [Exit.inBlock]
    have hr : (bif Nat.beq id' id then R .normal σ' else R (.exit id') σ') := hr
    by_cases hid : id' = id
    · subst hid
      rw [Nat.beq_refl] at hr
      rw [if_pos rfl]
      exact hQ _ _ _ _ hr hs'
    · rw [nbeq hid] at hr
      rw [if_neg hid]
      exact hQ _ _ _ _ hr hs'
  | _ => exact hQ _ _ _ _ hr hs'
theorem b_imp {c : Code} {R : Exit → AS → Prop} {σ τ : AS} (hi : Imp N w0 U0 σ τ) (h : B P N w0 U0 c R τ) : B P N w0 U0 c R σ := ⟨fun a w hs Q hQ => h.go a w (hi a w hs) Q hQ⟩
theorem AvD.re {σ : AS} {H : World} {V : Nat → Nat} {Q : Nat → Prop} {o : Ob} (hp : σ.n MK = .pin H V Q) {v : AV} {d : DV} {rn : List Nat} (h : AvD σ v d rn) : AvD ⟨σ.t, fun m => if m = MK then o else σ.n m⟩ v d rn := by
  cases h with
  | d x => exact .d _
  | cv h => exact .cv h
  | @ow m e z rows h =>
    refine AvD.ow (e := e) ?_
    show (if m = MK then o else σ.n m) = _
    by_cases hm : m = MK
    · rw [hm, hp] at h; cases h
    · rw [if_neg hm]; exact h
theorem Res1.re {σ : AS} {H : World} {V : Nat → Nat} {Q : Nat → Prop} {o : Ob} (hp : σ.n MK = .pin H V Q) {r : ResultVar} {d : DV} (h : Res1 P σ r d) : Res1 P ⟨σ.t, fun m => if m = MK then o else σ.n m⟩ r d := by
  have key : ∀ m ty cs, σ.n m = .bx ty cs → (if m = MK then o else σ.n m) = .bx ty cs := fun m ty cs h => by
    by_cases hm : m = MK
    · rw [hm, hp] at h; cases h
    · rw [if_neg hm]; exact h
  cases h with
  | tmp hv h => exact .tmp hv (h.re hp)
  | cell ha hm hu hg hi hl hc => exact .cell ha (key _ _ _ hm) hu hg hi hl hc
  | cell1 ha hm hu hg hc => exact .cell1 ha (key _ _ _ hm) hu hg hc
theorem ResL.re {σ : AS} {H : World} {V : Nat → Nat} {Q : Nat → Prop} {o : Ob} (hp : σ.n MK = .pin H V Q) {rs : List ResultVar} {ds : List DV} (h : ResL P σ rs ds) : ResL P ⟨σ.t, fun m => if m = MK then o else σ.n m⟩ rs ds := by
  induction h with
  | nil => exact .nil
  | cons h hs ih => exact .cons (h.re hp) ih
def Obj.dark : Obj → Bool
  | .cells .. => false
  | .map .. => false
  | _ => true
theorem Ext.put {w : World} {U : Nat → Nat} {l : Nat} {o o' : Obj} (hl : w.heap[l]? = some o) (hd : Obj.dark o = true) : Ext w U (w.putObj l o') U := by
  refine ⟨fun b off u hc ho => ?_, fun r es c hq hu => ?_⟩
  · have hne : b ≠ l := by
      rintro rfl
      unfold World.cell? at hc
      simp only [hl] at hc
      cases o <;> simp_all [Obj.dark]
    exact ⟨(World.cell?_of_block (World.putObj_heap_other hne)).trans hc, ho⟩
  · have hne : r ≠ l := by
      rintro rfl
      rw [hl] at hq
      cases hq
      cases hd
    exact ⟨World.putObj_heap_other hne, by rfl⟩
theorem St.put {σ : AS} {a : Act} {w : World} {H : World} {V : Nat → Nat} {Q : Nat → Prop} {l : Nat} {o o' : Obj} (h : St N w0 U0 σ a w) (hp : σ.n MK = .pin H V Q) (hQ : Q l) (hl : w.heap[l]? = some o) (hd : Obj.dark o = true) : St N w0 U0 ⟨σ.t, fun m => if m = MK then .pin (w.putObj l o') V Q else σ.n m⟩ a (w.putObj l o') := by
  obtain ⟨F, hF⟩ := h.f
  have hpin := hF.n MK
  rw [hp] at hpin
  obtain ⟨hS, hpin⟩ := hpin
  have hB : w0.heap.size ≤ l := (hpin l hQ).1
  have hE := Ext.put (U := F.U) (o' := o') hl hd
  refine ⟨h.d, h.s, ⟨h.b.os, h.b.tape, h.b.output, by rw [World.putObj_size]; exact h.b.size, fun k hk => (World.putObj_heap_other (by omega)).trans (h.b.block k hk)⟩, F, hF.u, fun t => (hF.t t).ext hE, fun m => ?_, fun m m' b h1 h2 h3 h4 => ?_⟩
  · show Rob w0.heap.size (w.putObj l o') F m (if m = MK then .pin (w.putObj l o') V Q else σ.n m)
    by_cases hm : m = MK
    · subst hm
      rw [if_pos rfl]
      exact ⟨hS, fun b hq => ⟨(hpin b hq).1, by rw [World.putObj_size]; exact (hpin b hq).2.1, rfl, (hpin b hq).2.2.2⟩⟩
    · rw [if_neg hm]
      cases hlv : (σ.n m).live with
      | false =>
        cases hob : σ.n m with
        | no => trivial
        | _ => rw [hob] at hlv; cases hlv
      | true =>
        refine Rob.ext (F := F) hE (fun b hb hlt => ⟨World.putObj_heap_other (fun e => ?_), rfl⟩) (hF.n m)
        subst e
        exact hm (hF.i m MK b hlv (by rw [hp]; rfl) hb ((hS b).2 hQ))
  · have key : ∀ j, ((if j = MK then Ob.pin (w.putObj l o') V Q else σ.n j)).live = true → (σ.n j).live = true := fun j hj => by
      by_cases hm : j = MK
      · rw [hm, hp]; rfl
      · rwa [if_neg hm] at hj
    exact hF.i m m' b (key m h1) (key m' h2) h3 h4
theorem ctrN {f : FuncId} {fn : Func} {c : Code} {args : List DV} {r : RV} {n : Nat} {rs : Array ResultVar} {L : List (Nat × AV)} (hf : P.funcs[f]? = some fn) (hb : fn.body = some c) (hn : fn.ntmps = n) (hr : fn.results = rs) (hl : Nat.ble args.length n = true) (hL : args0 args 0 = L)
    (h : ∀ w0 U0, B P n w0 U0 c (retR P rs r) (SS L [])) : Ctr P f args r := by
  subst hn
  subst hr
  subst hL
  intro vals U w hR
  have hle := Nat.le_of_ble_eq_true hl
  have hsz : (vals.toArray ++ Array.replicate (fn.ntmps - vals.toArray.size) undef).size = fn.ntmps := by simp [hR.1]; omega
  refine (callsIn_wide (n := 0)).1 (callsIn_of_wp_marks (F := Fence.wide) hf hb trivial ((h w U).go _ _ ⟨rfl, hsz, Below.refl _ _, ⟨fun _ => none, fun _ => undef, U, fun _ _ => False⟩, fun _ _ => rfl, fun t => ?_, fun m => trivial, fun m m' b h => by cases h⟩ _ (fun e σ' a' w' hr hs' => ?_)) rfl)
  · show Rav w _ (lk (args0 args 0) t) _
    rw [args0_get]
    split
    · rename_i ht
      have hl := hR.1
      have ht' : t < args.length := by simpa using ht.2
      have hv : (vals.toArray ++ Array.replicate (fn.ntmps - vals.toArray.size) undef).getD t undef = vals[t]'(by omega) := by
        rw [Array.getD_eq_getD_getElem?, Array.getElem?_append_left (by simp; omega)]
        simp [List.getElem?_eq_getElem (show t < vals.length by omega)]
      rw [hv]
      exact hR.2 t _ _ (List.getElem?_eq_getElem (by omega)) (by simp [List.getElem?_eq_getElem ht'])
    · trivial
  · have fin : ∀ (σ : AS) (b : Act) (w' : World), St fn.ntmps w U σ b w' → (∃ ds, ResL P σ fn.results.toList ds ∧ RV.of ds = r) → ∃ v, (results fn b.tmps).run P w' = .ok v w' ∧ ∃ v' U', Ending.returned v = .returned v' ∧ Below w.heap.size w w' ∧ (∀ b, b < w.heap.size → U' b = U b) ∧ Rres w' U' v' r := by
      rintro σ b w' hs ⟨ds, hL, hr⟩
      obtain ⟨F, hF⟩ := hs.f
      obtain ⟨vs, h1, h2⟩ := hL.run hF
      have hm : (fn.results.mapM (resVal b)).run P w' = .ok vs.toArray w' := by
        rw [Array.mapM_eq_mapM_toList]
        simp [h1]
      refine ⟨if hh : vs.toArray.size = 1 then vs.toArray[0] else .tuple vs.toArray, ?_, _, F.U, rfl, hs.b, hF.u, ?_⟩
      · have hres : results fn b.tmps = (fn.results.mapM (resVal b) >>= fun vs => pure (if h : vs.size = 1 then vs[0] else .tuple vs)) := rfl
        rw [hres, Sem.run_bind, hm]
        rfl
      · subst hr
        have hl := h2.1
        match vs, ds, hl, h2 with
        | [], [], _, h2 => exact ⟨_, rfl, h2⟩
        | [v], [d], _, h2 => exact h2.2 0 v d rfl rfl
        | v :: v2 :: vs, d :: d2 :: ds, _, h2 =>
          have : ¬ ((v :: v2 :: vs).toArray.size = 1) := by simp
          rw [dif_neg this]
          exact ⟨_, rfl, h2⟩
    obtain ⟨b, ds, rfl, hs2, hm⟩ := hs'
    have key : (∃ ds, ResL P σ' fn.results.toList ds ∧ RV.of ds = r) → LeavesInM Fence.wide 0 P fn b.tmps (fun e w' => ∃ v U', e = .returned v ∧ Below w.heap.size w w' ∧ (∀ b, b < w.heap.size → U' b = U b) ∧ Rres w' U' v r) ds .returning w' := by
      intro hres
      rcases hm with rfl | ⟨D, H, V, Q1, rfl, h2, h3, h4⟩
      · exact fin σ' b w' hs2 hres
      · obtain ⟨F, hF⟩ := hs2.f
        have hpin := hF.n MK
        rw [h2] at hpin
        have hD : w'.heap[D]? = some (.deferred (some [])) := (hpin.2 D h3).2.2.1.trans h4
        refine ⟨by simp, .inl ⟨D, _, rfl, run_takeDeferred hD, ?_⟩⟩
        obtain ⟨ds, hL, hrr⟩ := hres
        exact fin _ b _ (hs2.put (o' := .deferred none) h2 h3 hD rfl) ⟨ds, hL.re h2, hrr⟩
    cases e with
    | normal => exact key hr
    | ret => exact key hr
    | _ => exact hr.elim
def okV : AV → Bool
  | .un => true
  | .d _ => true
  | .pv _ _ => true
  | _ => false
theorem okL_get {L : List (Nat × AV)} (h : (L.all fun x => okV x.2) = true) (t : Nat) : okV (lk L t) = true := by
  induction L with
  | nil => rfl
  | cons x L ih =>
    obtain ⟨k, v⟩ := x
    show okV (bif Nat.beq k t then v else lk L t) = true
    simp only [List.all_cons, Bool.and_eq_true] at h
    by_cases hk : k = t
    · subst hk; rw [Nat.beq_refl]; exact h.1
    · rw [nbeq hk]; exact ih h.2
theorem zL_get {M : List (Nat × Ob)} (h : (M.all fun x => zeroO x.2) = true) (m : Nat) : zeroO (ln M m) = true := by
  induction M with
  | nil => rfl
  | cons x M ih =>
    obtain ⟨k, v⟩ := x
    show zeroO (bif Nat.beq k m then v else ln M m) = true
    simp only [List.all_cons, Bool.and_eq_true] at h
    by_cases hk : k = m
    · subst hk; rw [Nat.beq_refl]; exact h.1
    · rw [nbeq hk]; exact ih h.2
structure Core (N : Nat) (w0 : World) (U0 : Nat → Nat) (L : List (Nat × AV)) (M : List (Nat × Ob)) (a : Act) (D l : Nat) (W : World) (U : Nat → Nat) (T : Nat → Prop) (F : Fr) : Prop where
  u : F.U = U
  fit : Fits w0 U0 (SS L M) a W F
  b : Below w0.heap.size w0 W
  ok : (L.all fun x => okV x.2) = true
  z : (M.all fun x => zeroO x.2) = true
  nomk : ln M MK = .no
  T : ∀ b, T b ↔ ((∃ m, (ln M m).live = true ∧ F.S m b) ∨ b = D ∨ b = l)
  nl : ∀ m, (ln M m).live = true → ¬ F.S m D ∧ ¬ F.S m l
  ul : U D = 0 ∧ U l = 0
  hD : W.heap[D]? = some (.deferred (some []))
  hl : w0.heap.size ≤ D ∧ w0.heap.size ≤ l ∧ l < W.heap.size ∧ D ≠ l
theorem Core.own {L : List (Nat × AV)} {M : List (Nat × Ob)} {a : Act} {D l : Nat} {W : World} {U : Nat → Nat} {T : Nat → Prop} {F : Fr} (h : Core N w0 U0 L M a D l W U T F) {b : Nat} (hb : T b) : w0.heap.size ≤ b ∧ b < W.heap.size ∧ U b = 0 := by
  rcases (h.T b).1 hb with ⟨m, h1, h2⟩ | h1 | h1
  · have h3 := (h.fit.n m).lt h1 h2
    refine ⟨h3.1, h3.2, ?_⟩
    rw [← h.u]
    exact (h.fit.n m).zero0 (zL_get h.z m) h1 h2
  · subst h1
    exact ⟨h.hl.1, (Array.getElem?_eq_some_iff.1 h.hD).1, h.ul.1⟩
  · subst h1
    exact ⟨h.hl.2.1, h.hl.2.2.1, h.ul.2⟩
theorem Core.keep {L : List (Nat × AV)} {M : List (Nat × Ob)} {a : Act} {D l : Nat} {W : World} {U : Nat → Nat} {T : Nat → Prop} {F : Fr} (h : Core N w0 U0 L M a D l W U T F) {W' : World} {U' : Nat → Nat} (hs : Sm W W') (hk : ∀ b, b < W.heap.size → (b < w0.heap.size ∨ (∃ m, (ln M m).live = true ∧ F.S m b) ∨ b = D ∨ 0 < U b) → W'.heap[b]? = W.heap[b]? ∧ U' b = U b) (hl : l < W'.heap.size ∧ U' l = 0) : Core N w0 U0 L M a D l W' U' T { F with U := U' } := by
  have hu := h.u
  subst hu
  have hE : Ext W F.U W' U' := by
    refine ⟨fun b off u hc ho => ?_, fun r es c hq hu => ?_⟩
    · have hlt := World.block_lt_of_cell? W _ hc
      obtain ⟨g1, g2⟩ := hk b hlt (.inr (.inr (.inr (by omega))))
      exact ⟨(World.cell?_of_block g1).trans hc, by rw [g2]; exact ho⟩
    · exact hk r (Array.getElem?_eq_some_iff.1 hq).1 (.inr (.inr (.inr hu)))
  have hDlt := (Array.getElem?_eq_some_iff.1 h.hD).1
  have hsz : w0.heap.size ≤ W'.heap.size := by have := h.hl.2.1; omega
  refine ⟨by rfl, ⟨fun b hb => ((hk b (by have := h.b.size; omega) (.inl hb)).2).trans (h.fit.u b hb), fun t => (h.fit.t t).ext hE, fun m => ?_, h.fit.i⟩, ?_, h.ok, h.z, h.nomk, h.T, h.nl, ⟨((hk D hDlt (.inr (.inr (.inl rfl)))).2).trans h.ul.1, hl.2⟩, (hk D hDlt (.inr (.inr (.inl rfl)))).1.trans h.hD, ⟨h.hl.1, h.hl.2.1, hl.1, h.hl.2.2.2⟩⟩
  · show Rob w0.heap.size W' { F with U := U' } m (ln M m)
    cases hlv : (ln M m).live with
    | false =>
      cases hob : ln M m with
      | no => trivial
      | _ => rw [hob] at hlv; cases hlv
    | true => exact Rob.ext (F := F) hE (fun b hb hlt => hk b hlt (.inr (.inl ⟨m, hlv, hb⟩))) (h.fit.n m)
  · exact ((Sm.of h.b).trans hs).below (fun k hk2 => ((hk k (by have := h.b.size; omega) (.inl hk2)).1).trans (h.b.block k hk2)) hsz
theorem Core.put {L : List (Nat × AV)} {M : List (Nat × Ob)} {a : Act} {D l : Nat} {W : World} {U : Nat → Nat} {T : Nat → Prop} {F : Fr} (h : Core N w0 U0 L M a D l W U T F) (o : Obj) : Core N w0 U0 L M a D l (W.putObj l o) U T { F with U := U } := by
  refine h.keep ⟨rfl, rfl, rfl⟩ (fun b hb hh => ⟨World.putObj_heap_other (fun e => ?_), rfl⟩) ⟨by rw [World.putObj_size]; exact h.hl.2.2.1, h.ul.2⟩
  subst e
  rcases hh with hh | ⟨m, h1, h2⟩ | hh | hh
  · have := h.hl.2.1; omega
  · exact (h.nl m h1).2 h2
  · exact h.hl.2.2.2 hh.symm
  · have := h.ul.2; omega
theorem Core.start {L : List (Nat × AV)} {M : List (Nat × Ob)} {a : Act} {D l : Nat} {W : World} {U : Nat → Nat} {T : Nat → Prop} {F : Fr} (h : Core N w0 U0 L M a D l W U T F) (hsz : a.tmps.size = N) {p : Nat} (hp : p < N) {v : Value} {x : DV} (hv : Rd W U v x) :
    St N w0 U0 (SS ((p, .d x) :: L) ((MK, .pin W U (fun b => w0.heap.size ≤ b ∧ b < W.heap.size ∧ ∀ m, (ln M m).live = true → ¬ F.S m b)) :: M)) { tmps := a.tmps.setIfInBounds p v, defers := [] } W := by
  have hu := h.u
  subst hu
  let Q1 : Nat → Prop := fun b => w0.heap.size ≤ b ∧ b < W.heap.size ∧ ∀ m, (ln M m).live = true → ¬ F.S m b
  let F1 : Fr := ⟨F.β, F.γ, F.U, fun m b => if m = MK then Q1 b else F.S m b⟩
  refine ⟨rfl, by simp [hsz], h.b, F1, h.fit.u, fun t => ?_, fun m => ?_, fun m m' b h1 h2 h3 h4 => ?_⟩
  · show Rav W F1 (bif Nat.beq p t then AV.d x else lk L t) ((a.tmps.setIfInBounds p v).getD t undef)
    by_cases hpt : p = t
    · subst hpt
      rw [Nat.beq_refl, Array.getD_eq_getD_getElem?, Array.getElem?_setIfInBounds_self_of_lt (by omega)]
      exact hv
    · rw [nbeq hpt]
      have h5 : (a.tmps.setIfInBounds p v).getD t undef = a.tmps.getD t undef := by simp [Array.getElem?_setIfInBounds_ne hpt]
      rw [h5]
      have h6 : Rav W F (lk L t) (a.tmps.getD t undef) := h.fit.t t
      generalize lk L t = z at h6 ⊢
      generalize a.tmps.getD t undef = u at h6 ⊢
      cases z <;> exact h6
  · show Rob w0.heap.size W F1 m (bif Nat.beq MK m then _ else ln M m)
    by_cases hm : MK = m
    · subst hm
      rw [Nat.beq_refl]
      exact ⟨fun b => by simp [F1, Q1], fun b hq => ⟨hq.1, hq.2.1, rfl, rfl⟩⟩
    · rw [nbeq hm]
      exact (h.fit.n m).same (F' := F1) rfl rfl (fun b => by simp [F1, Ne.symm hm]) rfl
  · have key : ∀ j, (bif Nat.beq MK j then Ob.pin W F.U Q1 else ln M j).live = true → j = MK ∨ (j ≠ MK ∧ (ln M j).live = true) := fun j hj => by
      by_cases hm : MK = j
      · exact .inl hm.symm
      · rw [nbeq hm] at hj; exact .inr ⟨Ne.symm hm, hj⟩
    rcases key m h1 with e1 | ⟨e1, g1⟩ <;> rcases key m' h2 with e2 | ⟨e2, g2⟩
    · rw [e1, e2]
    · exfalso
      have h5 : Q1 b := by simpa [F1, e1] using h3
      have h6 : F.S m' b := by simpa [F1, e2] using h4
      exact h5.2.2 m' g2 h6
    · exfalso
      have h5 : Q1 b := by simpa [F1, e2] using h4
      have h6 : F.S m b := by simpa [F1, e1] using h3
      exact h5.2.2 m g1 h6
    · exact h.fit.i m m' b g1 g2 (by simpa [F1, e1] using h3) (by simpa [F1, e2] using h4)
theorem Core.close {L : List (Nat × AV)} {M M' : List (Nat × Ob)} {a b3 : Act} {D l : Nat} {W H w3 : World} {U : Nat → Nat} {T Q : Nat → Prop} {F : Fr} (h : Core N w0 U0 L M a D l W U T F) (hQ : ∀ b, Q b ↔ (w0.heap.size ≤ b ∧ b < W.heap.size ∧ ∀ m, (ln M m).live = true → ¬ F.S m b)) (hH : ∀ b, Q b → b ≠ l → H.heap[b]? = W.heap[b]?) (hz : (M'.all fun x => zeroO x.2) = true) (hm : ln M' MK = .no)
    (hs : St N w0 U0 (SS L ((MK, .pin H U Q) :: M')) b3 w3) : w3.heap[l]? = H.heap[l]? ∧ ∃ F', Core N w0 U0 L M' a D l w3 F'.U (fun b => (∃ m, (ln M' m).live = true ∧ F'.S m b) ∨ b = D ∨ b = l) F' ∧ (∀ b, b < W.heap.size → ¬ T b → w3.heap[b]? = W.heap[b]? ∧ F'.U b = U b) ∧ (∀ b, ((∃ m, (ln M' m).live = true ∧ F'.S m b) ∨ b = D ∨ b = l) → T b ∨ W.heap.size ≤ b) := by
  obtain ⟨F', hF⟩ := hs.f
  have hne : ∀ m, m ≠ MK → (SS L ((MK, .pin H U Q) :: M')).n m = ln M' m := fun m h => by
    show (bif Nat.beq MK m then Ob.pin H U Q else ln M' m) = _
    rw [nbeq (Ne.symm h)]; rfl
  have hmkl : ∀ m, (ln M' m).live = true → m ≠ MK := fun m hl e => by rw [e, hm] at hl; cases hl
  have hpin := hF.n MK
  have e0 : (SS L ((MK, .pin H U Q) :: M')).n MK = .pin H U Q := by
    show (bif Nat.beq MK MK then Ob.pin H U Q else ln M' MK) = _
    rw [Nat.beq_refl]; rfl
  rw [e0] at hpin
  obtain ⟨hS, hpin⟩ := hpin
  have hDlt := (Array.getElem?_eq_some_iff.1 h.hD).1
  have hQl : Q l := (hQ l).2 ⟨h.hl.2.1, h.hl.2.2.1, fun m hl => (h.nl m hl).2⟩
  have hQD : Q D := (hQ D).2 ⟨h.hl.1, hDlt, fun m hl => (h.nl m hl).1⟩
  have hfix : ∀ b, b < W.heap.size → (∀ m, (ln M m).live = true → ¬ F.S m b) → b ≠ l → w3.heap[b]? = W.heap[b]? ∧ F'.U b = U b := by
    intro b hb hT hne
    by_cases hlt : b < w0.heap.size
    · exact ⟨(hs.b.block b hlt).trans (h.b.block b hlt).symm, (hF.u b hlt).trans (by rw [← h.u]; exact (h.fit.u b hlt).symm)⟩
    · have hq : Q b := (hQ b).2 ⟨by omega, hb, hT⟩
      obtain ⟨_, _, h3, h4⟩ := hpin b hq
      exact ⟨h3.trans (hH b hq hne), h4⟩
  have hE : Ext W F.U w3 F'.U := by
    have hUT : ∀ b, 0 < F.U b → b < W.heap.size → (∀ m, (ln M m).live = true → ¬ F.S m b) ∧ b ≠ l := by
      intro b hb hlt
      have hnT : ¬ T b := fun hT => by have := (h.own hT).2.2; rw [← h.u] at this; omega
      exact ⟨fun m hl hSb => hnT ((h.T b).2 (.inl ⟨m, hl, hSb⟩)), fun e => hnT ((h.T b).2 (.inr (.inr e)))⟩
    refine ⟨fun b off u hc ho => ?_, fun r es c hq hu => ?_⟩
    · have hlt := World.block_lt_of_cell? W _ hc
      obtain ⟨g1, g2⟩ := hUT b (by omega) hlt
      obtain ⟨g3, g4⟩ := hfix b hlt g1 g2
      exact ⟨(World.cell?_of_block g3).trans hc, by rw [g4, ← h.u]; exact ho⟩
    · have hlt : r < W.heap.size := (Array.getElem?_eq_some_iff.1 hq).1
      obtain ⟨g1, g2⟩ := hUT r hu hlt
      obtain ⟨g3, g4⟩ := hfix r hlt g1 g2
      exact ⟨g3, by rw [g4, ← h.u]⟩
  refine ⟨(hpin l hQl).2.2.1, F', ⟨by rfl, ⟨hF.u, fun t => ?_, fun m => ?_, fun m m' b h1 h2 h3 h4 => ?_⟩, hs.b, h.ok, hz, hm, fun b => Iff.rfl, fun m hl => ?_, ?_, ?_, ⟨h.hl.1, h.hl.2.1, (hpin l hQl).2.1, h.hl.2.2.2⟩⟩, fun b hb hT => ?_, fun b hb => ?_⟩
  · have h1 := okL_get h.ok t
    have h2 : Rav W F (lk L t) (a.tmps.getD t undef) := h.fit.t t
    have h3 : Rav w3 F' (lk L t) (b3.tmps.getD t undef) := hF.t t
    show Rav w3 F' (lk L t) (a.tmps.getD t undef)
    cases hv : lk L t with
    | un => trivial
    | d x =>
      rw [hv] at h2
      exact Rd.ext hE h2
    | pv m x =>
      rw [hv] at h2 h3
      exact ⟨h2.1, h3.2⟩
    | _ => rw [hv] at h1; cases h1
  · show Rob w0.heap.size w3 F' m (ln M' m)
    by_cases hmm : m = MK
    · rw [hmm, hm]; trivial
    · have := hF.n m
      rwa [hne m hmm] at this
  · have g1 : (ln M' m).live = true := h1
    have g2 : (ln M' m').live = true := h2
    exact hF.i m m' b (by rw [hne m (hmkl m g1)]; exact g1) (by rw [hne m' (hmkl m' g2)]; exact g2) h3 h4
  · have hd : ∀ b, Q b → ¬ F'.S m b := fun b hq hSb => hmkl m hl (hF.i m MK b (by rw [hne m (hmkl m hl)]; exact hl) (by rw [e0]; rfl) hSb ((hS b).2 hq))
    exact ⟨hd D hQD, hd l hQl⟩
  · exact ⟨((hpin D hQD).2.2.2).trans h.ul.1, ((hpin l hQl).2.2.2).trans h.ul.2⟩
  · exact ((hpin D hQD).2.2.1).trans ((hH D hQD h.hl.2.2.2).trans h.hD)
  · exact hfix b hb (fun m hl hSb => hT ((h.T b).2 (.inl ⟨m, hl, hSb⟩))) (fun e => hT ((h.T b).2 (.inr (.inr e))))
  · rcases hb with ⟨m, hl, hSb⟩ | hb | hb
    · have h1 := (hF.n m)
      rw [hne m (hmkl m hl)] at h1
      have h2 := h1.lt hl hSb
      by_cases hlt : b < W.heap.size
      · refine .inl ?_
        by_cases hTb : T b
        · exact hTb
        · exfalso
          have hq : Q b := (hQ b).2 ⟨h2.1, hlt, fun m' hl' hS' => hTb ((h.T b).2 (.inl ⟨m', hl', hS'⟩))⟩
          exact hmkl m hl (hF.i m MK b (by rw [hne m (hmkl m hl)]; exact hl) (by rw [e0]; rfl) hSb ((hS b).2 hq))
      · exact .inr (by omega)
    · exact .inl ((h.T b).2 (.inr (.inl hb)))
    · exact .inl ((h.T b).2 (.inr (.inr hb)))
def endR (N : Nat) (w0 : World) (U0 : Nat → Nat) (L : List (Nat × AV)) (Mf : Nat → List (Nat × Ob)) (stop : Nat → Bool) (R : Exit → AS → Prop) (k : Nat) (H : World) (V : Nat → Nat) (Q : Nat → Prop) (e : Exit) (σ : AS) : Prop :=
  (e = .normal ∧ stop k = false ∧ Imp N w0 U0 σ (SS L ((MK, .pin H V Q) :: Mf (k + 1)))) ∨
  (∃ Mx, stop k = true ∧ (e = .ret ∨ ∃ id, e = .exit id) ∧ (Mx.all fun x => zeroO x.2) = true ∧ ln Mx MK = .no ∧ Imp N w0 U0 σ (SS L ((MK, .pin H V Q) :: Mx)) ∧ ∀ H V Q, R e (SS L ((MK, .pin H V Q) :: Mx)))
theorem Core.mark {L : List (Nat × AV)} {M : List (Nat × Ob)} {a : Act} {D l : Nat} {W : World} {U : Nat → Nat} {T : Nat → Prop} {F : Fr} (h : Core N w0 U0 L M a D l W U T F) (hd : a.defers = []) (hsz : a.tmps.size = N) : StM N w0 U0 (SS L ((MK, .pin W U (fun b => b = D)) :: M)) (dfs a [markD D]) W := by
  have hu := h.u
  subst hu
  let F1 : Fr := ⟨F.β, F.γ, F.U, fun m b => if m = MK then b = D else F.S m b⟩
  refine ⟨a, [markD D], rfl, ⟨hd, hsz, h.b, F1, h.fit.u, fun t => ?_, fun m => ?_, fun m m' b h1 h2 h3 h4 => ?_⟩, .inr ⟨D, W, F.U, (fun b => b = D), rfl, ?_, rfl, h.hD⟩⟩
  · have h6 : Rav W F (lk L t) (a.tmps.getD t undef) := h.fit.t t
    show Rav W F1 (lk L t) (a.tmps.getD t undef)
    generalize lk L t = z at h6 ⊢
    generalize a.tmps.getD t undef = u at h6 ⊢
    cases z <;> exact h6
  · show Rob w0.heap.size W F1 m (bif Nat.beq MK m then _ else ln M m)
    by_cases hm : MK = m
    · subst hm
      rw [Nat.beq_refl]
      exact ⟨fun b => by simp [F1], fun b hq => ⟨by rw [hq]; exact h.hl.1, by rw [hq]; exact (Array.getElem?_eq_some_iff.1 h.hD).1, rfl, rfl⟩⟩
    · rw [nbeq hm]
      exact (h.fit.n m).same (F' := F1) rfl rfl (fun b => by simp [F1, Ne.symm hm]) rfl
  · have key : ∀ j, (bif Nat.beq MK j then Ob.pin W F.U (fun b => b = D) else ln M j).live = true → j = MK ∨ (j ≠ MK ∧ (ln M j).live = true) := fun j hj => by
      by_cases hm : MK = j
      · exact .inl hm.symm
      · rw [nbeq hm] at hj; exact .inr ⟨Ne.symm hm, hj⟩
    rcases key m h1 with e1 | ⟨e1, g1⟩ <;> rcases key m' h2 with e2 | ⟨e2, g2⟩
    · rw [e1, e2]
    · exfalso
      have h5 : b = D := by simpa [F1, e1] using h3
      have h6 : F.S m' b := by simpa [F1, e2] using h4
      subst h5
      exact (h.nl m' g2).1 h6
    · exfalso
      have h5 : b = D := by simpa [F1, e2] using h4
      have h6 : F.S m b := by simpa [F1, e1] using h3
      subst h5
      exact (h.nl m g1).1 h6
    · exact h.fit.i m m' b g1 g2 (by simpa [F1, e1] using h3) (by simpa [F1, e2] using h4)
  · show (bif Nat.beq MK MK then Ob.pin W F.U (fun b => b = D) else ln M MK) = _
    rw [Nat.beq_refl]; rfl
theorem b_name {c : Code} {R : Exit → AS → Prop} {L : List (Nat × AV)} {M : List (Nat × Ob)} (t m : Nat) (ht : lk L t = .pt m 0) (h : ∀ v, B P N w0 U0 c R (SS ((t, .pv m v) :: L) M)) : B P N w0 U0 c R (SS L M) := by
  refine ⟨fun a w hs Q hQ => ?_⟩
  obtain ⟨F, hF⟩ := hs.f
  obtain ⟨b, hb, hv⟩ : Rav w F (.pt m 0) (a.tmps.getD t undef) := by have := hF.t t; rwa [show (SS L M).t t = _ from ht] at this
  refine (h (a.tmps.getD t undef)).go a w ⟨hs.d, hs.s, hs.b, F, hF.u, fun j => ?_, hF.n, hF.i⟩ Q hQ
  show Rav w F (bif Nat.beq t j then AV.pv m _ else lk L j) _
  by_cases hj : t = j
  · subst hj
    rw [Nat.beq_refl]
    exact ⟨rfl, b, hb, hv⟩
  · rw [nbeq hj]
    exact hF.t j
theorem mapget {α β : Type} [Inhabited α] {f : α → β} {l : List α} {k : Nat} {x : β} (h : (l.map f)[k]? = some x) : k < l.length ∧ x = f (ix l k) := by
  rw [List.getElem?_map] at h
  cases hk : l[k]? with
  | none => rw [hk] at h; cases h
  | some y => rw [hk] at h; cases h; exact ⟨(List.getElem?_eq_some_iff.1 hk).1, by unfold ix; rw [List.getD_eq_getElem?_getD, hk]; rfl⟩
def jumpC (e : Exit) (c : Code) : Prop := (e = .ret ∧ c = .ret) ∨ ∃ id, e = .exit id ∧ c = .exit id
theorem b_range {gf : FuncId} {fn : Func} {g : Operand} {p : Tmp} {assign body : Code} {L : List (Nat × AV)} {caps xs : List DV} {R : Exit → AS → Prop} (stop : Nat → Bool) (Mf : Nat → List (Nat × Ob))
    (hg : (SS L (Mf 0)).ev g = .d (.fn gf caps)) (hf : P.funcs[gf]? = some fn) (hn : (fn.name == "runtime.NumGoroutine") = false) (hb : fn.body.isNone = false) (hc : SeqD P gf caps xs) (hp : Nat.blt p N = true)
    (hL : (L.all fun x => okV x.2) = true) (hM : ∀ k, ((Mf k).all fun x => zeroO x.2) = true) (hmk : ∀ k, ln (Mf k) MK = .no)
    (round : ∀ k x, xs[k]? = some x → (∀ i, i < k → stop i = false) → ∀ H V Q, A P N w0 U0 assign (thenR (fun σ1 => ∃ L1 M1, σ1 = SS L1 M1 ∧ ln M1 MK = .pin H V Q ∧ ∀ H V Q, A P N w0 U0 body (endR N w0 U0 L Mf stop R k H V Q) (SS L1 (repL MK (.pin H V Q) M1))) (fun _ _ => False)) (SS ((p, .d x) :: L) ((MK, .pin H V Q) :: Mf k)))
    (done : (∀ i, i < xs.length → stop i = false) → ∀ H V Q, R .normal (SS L ((MK, .pin H V Q) :: Mf xs.length))) :
    B P N w0 U0 (.rangeFunc g #[p] assign body) R (SS L (Mf 0)) := by
  refine ⟨fun a w hs Q hQ => wpIn_rangeFunc (fun fnn _ => ?_)⟩
  obtain ⟨F, hF⟩ := hs.f
  have hpN : p < N := by simpa using hp
  obtain ⟨vs, hgv, hvs⟩ : ∃ vs : Array Value, a.eval g = .func (.func gf) #[] vs ∧ Rds w F.U vs.toList caps := by
    have := hF.ev g
    rw [hg] at this
    generalize a.eval g = u at this ⊢
    cases this with
    | fn f vs cs h hc => exact ⟨vs, rfl, by simpa using h, hc⟩
  obtain ⟨rec, hrec⟩ : ∃ rec : LoopState → Option Code → Loop, rec = fun st pe => { state := st, pending := pe, fn := fnn, tmps := a.tmps, params := #[p], assign, body, defers := w.heap.size } := ⟨_, rfl⟩
  obtain ⟨W1, hW1⟩ : ∃ W1, (w.alloc (.deferred (some []))).alloc (.loop (rec .ready none)) = W1 := ⟨_, rfl⟩
  obtain ⟨U1, hU1⟩ : ∃ U1 : Nat → Nat, U1 = fun b => if b < w.heap.size then F.U b else 0 := ⟨_, rfl⟩
  have hL1 : W1.heap[w.heap.size + 1]? = some (.loop (rec .ready none)) := by
    rw [← hW1]; have := World.alloc_heap_new (w.alloc (.deferred (some []))) (.loop (rec .ready none)); rwa [World.size_alloc] at this
  have hK1 : W1.heap[w.heap.size]? = some (.deferred (some [])) := by
    rw [← hW1]; exact (Below.heap_alloc _ _ _ (by simp)).trans (World.alloc_heap_new w _)
  have hb1 : Below w.heap.size w W1 := by
    rw [← hW1]; exact ((Below.refl _ w).alloc (Nat.le_refl _) _).alloc (by simp) _
  have hs1 : W1.heap.size = w.heap.size + 2 := by rw [← hW1]; simp
  have hUp : Up w F.U W1 U1 := ⟨fun b hb => hb1.block b hb, fun b hb => by rw [hU1]; simp [hb]⟩
  have hcore : Core N w0 U0 L (Mf 0) a w.heap.size (w.heap.size + 1) W1 U1 (fun b => (∃ m, (ln (Mf 0) m).live = true ∧ F.S m b) ∨ b = w.heap.size ∨ b = w.heap.size + 1) { F with U := U1 } := by
    refine ⟨by rfl, hF.up hs.b.size hUp, hs.b.trans (hb1.mono hs.b.size), hL, hM 0, hmk 0, fun b => Iff.rfl, fun m hl => ?_, ?_, hK1, ⟨hs.b.size, by have := hs.b.size; omega, by omega, by omega⟩⟩
    · have h1 : ∀ b, F.S m b → b < w.heap.size := fun b hb => ((hF.n m).lt hl hb).2
      exact ⟨fun h => by have := h1 _ h; omega, fun h => by have := h1 _ h; omega⟩
    · rw [hU1]; exact ⟨by simp, if_neg (by omega)⟩
  let J : Nat → World → (Nat → Nat) → (Nat → Prop) → Prop := fun k W U T => ∃ M st pe F, Core N w0 U0 L M a w.heap.size (w.heap.size + 1) W U T F ∧ W.heap[w.heap.size + 1]? = some (.loop (rec st pe)) ∧
    ((st = .ready ∧ pe = none ∧ M = Mf k ∧ ∀ i, i < k → stop i = false) ∨ (∃ j e c, st = .done ∧ pe = some c ∧ k = j + 1 ∧ stop j = true ∧ jumpC e c ∧ ∀ H V Q, R e (SS L ((MK, .pin H V Q) :: M))))
  have hI : Iter P xs stop (w.heap.size + 1) (fun b => b < w0.heap.size) J := by
    refine ⟨?_, ?_, ?_, ?_⟩
    · rintro k W U T ⟨M, st, pe, F, hC, _⟩ b hb
      exact (hC.own hb).2
    · rintro k W U T ⟨M, st, pe, F, hC, _⟩ b hb
      exact ⟨by have := hC.b.size; omega, fun hT => by have := (hC.own hT).1; omega⟩
    · rintro k W U T W' U' ⟨M, st, pe, F, hC, hl, hcase⟩ hSm hk
      have hTl : T (w.heap.size + 1) := (hC.T _).2 (.inr (.inr rfl))
      have hll := hk (w.heap.size + 1) hC.hl.2.2.1 (.inr (.inl hTl))
      refine ⟨M, st, pe, _, hC.keep hSm (fun b hb hh => hk b hb ?_) ⟨(Array.getElem?_eq_some_iff.1 (hll.1.trans hl)).1, hll.2.trans hC.ul.2⟩, hll.1.trans hl, hcase⟩
      rcases hh with hh | hh | hh | hh
      · exact .inl hh
      · exact .inr (.inl ((hC.T b).2 (.inl hh)))
      · exact .inr (.inl ((hC.T b).2 (.inr (.inl hh))))
      · exact .inr (.inr hh)
    · rintro k W U T v x ⟨M, st, pe, F, hC, hl, hcase⟩ hx hst hv
      have hcase2 : st = .ready ∧ pe = none ∧ M = Mf k := by
        rcases hcase with ⟨h1, h2, h3, _⟩ | ⟨j, e, c, _, _, h3, h4, _⟩
        · exact ⟨h1, h2, h3⟩
        · have := hst j (by omega)
          rw [h4] at this; cases this
      obtain ⟨rfl, rfl, rfl⟩ := hcase2
      have hy := run_yield (P := P) (args := #[v]) hl (by rw [hrec]; rfl)
      rw [hrec] at hy
      refine ⟨fnn, _, assign, body, hy, roundIn_of_wpIn trivial ?_⟩
      have hs0 := hC.start hs.s hpN hv
      obtain ⟨Q1, hQ1⟩ : ∃ Q1 : Nat → Prop, Q1 = fun b => w0.heap.size ≤ b ∧ b < W.heap.size ∧ ∀ m, (ln (Mf k) m).live = true → ¬ F.S m b := ⟨_, rfl⟩
      rw [← hQ1] at hs0
      have hQl : Q1 (w.heap.size + 1) := by rw [hQ1]; exact ⟨hC.hl.2.1, hC.hl.2.2.1, fun m hl => (hC.nl m hl).2⟩
      let RR : Ending → World → Prop := fun e W' => e = .returned (.bool (!stop k)) ∧ ∃ U' T', J (k + 1) W' U' T' ∧ Sm W W' ∧ (∀ b, b < W.heap.size → ¬ T b → W'.heap[b]? = W.heap[b]? ∧ U' b = U b) ∧ (∀ b, T' b → T b ∨ W.heap.size ≤ b)
      have hA := (round k x hx hst W U Q1).goR (some (w.heap.size + 1)) [] _ W hs0
        (Exit.then (fun a₁ w₁ => ∃ w₂, (Instr.beginRound (w.heap.size + 1)).run P w₁ = .ok () w₂ ∧ body.wpIn (Fence.wide.inRound (w.heap.size + 1)) 0 P (roundPost P (w.heap.size + 1) RR) a₁ w₂) (fun _ _ _ => False))
        (fun e σ1 b1 w1 hr1 hs1 => ?_)
      · have e1 : ((#[p].zip #[v]).foldl (fun tmps (t, a) => tmps.setIfInBounds t a) a.tmps) = a.tmps.setIfInBounds p v := by simp
        show assign.wpIn (Fence.wide.inRound (w.heap.size + 1)) 0 P _ { tmps := ((#[p].zip #[v]).foldl (fun tmps (t, a) => tmps.setIfInBounds t a) a.tmps), defers := [] } W
        rw [e1]
        exact hA
      · cases e with
        | normal =>
          obtain ⟨L1, M1, rfl, hp1, hbody⟩ := hr1
          rw [dfs_self hs1.d]
          obtain ⟨F1, hF1⟩ := hs1.f
          have hpin1 := hF1.n MK
          rw [show (SS L1 M1).n MK = _ from hp1] at hpin1
          obtain ⟨_, hpin1⟩ := hpin1
          have hl1 : w1.heap[w.heap.size + 1]? = some (.loop (rec .ready none)) := ((hpin1 _ hQl).2.2.1).trans hl
          refine ⟨_, run_beginRound hl1 (by rw [hrec]), ?_⟩
          have hs2 := hs1.put (o' := .loop { rec .ready none with state := .busy }) hp1 hQl hl1 rfl
          obtain ⟨w2, hw2⟩ : ∃ w2, w1.putObj (w.heap.size + 1) (.loop { rec .ready none with state := .busy }) = w2 := ⟨_, rfl⟩
          rw [hw2] at hs2 ⊢
          have hl2 : w2.heap[w.heap.size + 1]? = some (.loop { rec .ready none with state := .busy }) := by rw [← hw2]; exact World.putObj_heap_same (Array.getElem?_eq_some_iff.1 hl1).1
          have hw21 : ∀ b, b ≠ w.heap.size + 1 → w2.heap[b]? = w1.heap[b]? := fun b hb => by rw [← hw2]; exact World.putObj_heap_other hb
          have est : (⟨(SS L1 M1).t, fun m => if m = MK then .pin w2 U Q1 else (SS L1 M1).n m⟩ : AS) = SS L1 (repL MK (.pin w2 U Q1) M1) := by
            have : (fun m => if m = MK then Ob.pin w2 U Q1 else ln M1 m) = ln (repL MK (.pin w2 U Q1) M1) := by
              funext m
              exact (ln_repL M1 m (by rw [hp1]; simp)).symm
            show (⟨lk L1, fun m => if m = MK then Ob.pin w2 U Q1 else ln M1 m⟩ : AS) = ⟨lk L1, ln (repL MK (.pin w2 U Q1) M1)⟩
            rw [this]
          rw [est] at hs2
          have hB := (hbody w2 U Q1).goR (some (w.heap.size + 1)) [] b1 w2 hs2 (roundPost P (w.heap.size + 1) RR) (fun e σ3 b3 w3 hr3 hs3 => ?_)
          · rw [dfs_self hs1.d] at hB
            exact hB
          · have hHW : ∀ b, Q1 b → b ≠ w.heap.size + 1 → w2.heap[b]? = W.heap[b]? := fun b hq hne => (hw21 b hne).trans (hpin1 b hq).2.2.1
            have hQq : ∀ b, Q1 b ↔ (w0.heap.size ≤ b ∧ b < W.heap.size ∧ ∀ m, (ln (Mf k) m).live = true → ¬ F.S m b) := fun b => by rw [hQ1]
            have fin : ∀ (M' : List (Nat × Ob)) (jump : Option Code), (M'.all fun x => zeroO x.2) = true → ln M' MK = .no → St N w0 U0 (SS L ((MK, .pin w2 U Q1) :: M')) b3 w3 → stop k = !jump.isNone →
                ((jump = none ∧ M' = Mf (k + 1)) ∨ (∃ e c, jump = some c ∧ jumpC e c ∧ ∀ H V Q, R e (SS L ((MK, .pin H V Q) :: M')))) →
                ∃ v w4, (Instr.endRound (w.heap.size + 1) jump).run P w3 = .ok v w4 ∧ RR (.returned v) w4 := by
              intro M' jump hz' hm' hs4 hsk hcs
              obtain ⟨hl3, F', hC3, hfix, hnew⟩ := hC.close hQq hHW hz' hm' hs4
              have hl3' := hl3.trans hl2
              have hend := run_endRound (P := P) jump hl3'
              refine ⟨_, _, hend, by rw [hsk]; simp, F'.U, _, ⟨M', _, _, _, hC3.put _, (World.putObj_heap_same (Array.getElem?_eq_some_iff.1 hl3').1).trans (by rw [hrec]), ?_⟩, ?_, ?_, hnew⟩
              · rcases hcs with ⟨rfl, rfl⟩ | ⟨e, c, rfl, hj, hR⟩
                · refine .inl ⟨rfl, rfl, rfl, fun i hi => ?_⟩
                  by_cases hik : i = k
                  · rw [hik, hsk]; rfl
                  · exact hst i (by omega)
                · exact .inr ⟨k, e, c, rfl, rfl, rfl, by rw [hsk]; rfl, hj, hR⟩
              · exact ((Sm.of hC.b).symm.trans (Sm.of hC3.b)).trans ⟨rfl, rfl, rfl⟩
              · intro b hb hT
                have hne : b ≠ w.heap.size + 1 := fun e => hT ((hC.T b).2 (.inr (.inr e)))
                exact ⟨(World.putObj_heap_other hne).trans (hfix b hb hT).1, (hfix b hb hT).2⟩
            rcases hr3 with ⟨rfl, h5, h6⟩ | ⟨Mx, h5, h6, h7, h8, h9, h10⟩
            · exact fin (Mf (k + 1)) none (hM _) (hmk _) (h6 _ _ hs3) (by rw [h5]; rfl) (.inl ⟨rfl, rfl⟩)
            · rcases h6 with rfl | ⟨id, rfl⟩
              · exact fin Mx (some .ret) h7 h8 (h9 _ _ hs3) (by rw [h5]; rfl) (.inr ⟨.ret, .ret, rfl, .inl ⟨rfl, rfl⟩, h10⟩)
              · exact fin Mx (some (.exit id)) h7 h8 (h9 _ _ hs3) (by rw [h5]; rfl) (.inr ⟨.exit id, .exit id, rfl, .inr ⟨id, rfl, rfl⟩, h10⟩)
        | _ => exact hr1.elim
  have hcall := hc stop (w.heap.size + 1) _ J W1 U1 _ vs.toList hI (hvs.ext hUp.ext) ⟨Mf 0, _, _, _, hcore, hL1, .inl ⟨rfl, rfl, rfl, fun i hi => by omega⟩⟩
  refine ⟨w.heap.size + 1, [markD w.heap.size], W1, { target := .fn (.func gf) vs, args := #[.func (.yield (w.heap.size + 1)) #[] #[]] }, W1, gf, #[.func (.yield (w.heap.size + 1)) #[] #[]] ++ vs, W1, ?_, ?_, fun _ _ => trivial, ?_, fun h => (by cases h), ?_⟩
  · rw [← hW1, hrec]; exact run_enterLoop_outer _ _ _ _ _
  · simp only [resolve, hgv]
    simp [go_sem]
  · simp only [invoke]
    exact run_call hf hn hb _ _
  · have hargs : (#[.func (.yield (w.heap.size + 1)) #[] #[]] ++ vs : Array Value) = (Value.func (.yield (w.heap.size + 1)) #[] #[] :: vs.toList).toArray := by
      apply Array.ext'
      simp
    rw [hargs]
    refine (callsIn_wide (n := 0 - 1)).2 (Calls.mono hcall ?_)
    rintro e w3 ⟨⟨v, rfl⟩, k, U3, T3, ⟨M, st, pe, F3, hC, hl3, hcase⟩, hend⟩
    have hnb : (rec st pe).state ≠ .busy := by
      rw [hrec]
      rcases hcase with ⟨h1, _⟩ | ⟨j, e, c, h1, _⟩ <;> (show st ≠ _; rw [h1]; simp)
    have hpe : (rec st pe).pending = pe := by rw [hrec]
    have hC4 := hC.put (.loop { rec st pe with state := .exhausted })
    have hst := hC4.mark hs.d hs.s
    have hrun := run_endLoop (P := P) hl3 hnb
    obtain ⟨W4, hW4⟩ : ∃ W4, w3.putObj (w.heap.size + 1) (.loop { rec st pe with state := .exhausted }) = W4 := ⟨_, rfl⟩
    rw [hW4] at hrun hst
    rw [hpe] at hrun
    refine ⟨pe, W4, hrun, ?_⟩
    have hdd : ({ a with defers := [markD w.heap.size] ++ a.defers } : Act) = dfs a [markD w.heap.size] := by rw [hs.d]; rfl
    rw [hdd]
    rcases hcase with ⟨rfl, rfl, rfl, hfs⟩ | ⟨j, e, c, rfl, rfl, hkj, hsj, hj, hR⟩
    · rcases hend with ⟨rfl, hfs2⟩ | ⟨j, hj1, hj2, hj3, hj4⟩
      · exact hQ _ _ _ _ (done hfs2 _ _ _) hst
      · have := hfs j (by omega)
        rw [hj3] at this; cases this
    · rcases hj with ⟨rfl, rfl⟩ | ⟨id, rfl, rfl⟩
      · exact wpIn_ret (hQ _ _ _ _ (hR _ _ _) hst)
      · exact wpIn_exit (hQ _ _ _ _ (hR _ _ _) hst)
end
end Go.Proofs.Ytipkielpicfobaa.Av
