/- The rules of a body in the words of the state: regions, sequences, conditions, loops. No condition. -/
import Derived.Test.YteplcjhnmmpicaaAv2
set_option linter.unusedSimpArgs false
set_option linter.unusedVariables false
namespace Go.Proofs.Yteplcjhnmmpicaa.Av
open Go Go.RowKit
def lk : List (Nat × AV) → Nat → AV
  | [], _ => .un
  | (k, v) :: l, t => bif Nat.beq k t then v else lk l t
def ln : List (Nat × Ob) → Nat → Ob
  | [], _ => .no
  | (k, v) :: l, t => bif Nat.beq k t then v else ln l t
/-- a state written as two lists -/
def SS (L : List (Nat × AV)) (M : List (Nat × Ob)) : AS := ⟨lk L, ln M⟩
theorem ln_append (a b : List (Nat × Ob)) (m : Nat) : ln (a ++ b) m = (nwGet a m).getD (ln b m) := by
  induction a with
  | nil => rfl
  | cons x a ih =>
    obtain ⟨k, o⟩ := x
    show (bif Nat.beq k m then o else ln (a ++ b) m) = ((bif Nat.beq k m then some o else nwGet a m).getD (ln b m))
    cases Nat.beq k m with
    | true => rfl
    | false => exact ih
def Eff.L (e : Eff) (L : List (Nat × AV)) : List (Nat × AV) := match e.tw with | some x => x :: L | none => L
theorem ap_ss (e : Eff) (L : List (Nat × AV)) (M : List (Nat × Ob)) : e.ap (SS L M) = SS (e.L L) (e.nw ++ M) := by
  unfold Eff.ap SS Eff.L
  congr 1
  · funext t
    cases e.tw with
    | none => rfl
    | some x => rfl
  · funext m
    exact (ln_append _ _ _).symm
def freshB (L : List (Nat × AV)) (M : List (Nat × Ob)) (m : Nat) : Bool := !(ln M m).live && L.all fun p => !p.2.says m
theorem fresh_ss {L : List (Nat × AV)} {M : List (Nat × Ob)} {m : Nat} (h : freshB L M m = true) : fresh (SS L M) m := by
  unfold freshB at h
  simp only [Bool.and_eq_true, Bool.not_eq_true'] at h
  refine ⟨?_, fun t => ?_⟩
  · show ln M m = .no
    cases hq : ln M m with
    | no => rfl
    | _ => rw [hq] at h; simp [Ob.live] at h
  · show (lk L t).says m = false
    have h2 := h.2
    clear h
    induction L with
    | nil => rfl
    | cons x L ih =>
      obtain ⟨k, v⟩ := x
      simp only [List.all_cons, Bool.and_eq_true, Bool.not_eq_true'] at h2
      show (bif Nat.beq k t then v else lk L t).says m = false
      cases Nat.beq k t with
      | true => exact h2.1
      | false => exact ih h2.2
section
variable {P : Program} {N : Nat} {w0 : World} {U0 : Nat → Nat}
theorem fits_drew {σ : AS} {a : Act} {w : World} (h : St N w0 U0 σ a w) : St N w0 U0 σ a { w with drawn := w.drawn + 1 } := by
  obtain ⟨F, hF⟩ := h.f
  have := hF.up (w' := { w with drawn := w.drawn + 1 }) (U' := F.U) h.b.size ⟨fun _ _ => rfl, fun _ _ => rfl⟩
  exact ⟨h.d, h.s, h.b.trans ⟨rfl, rfl, rfl, Nat.le_refl _, fun _ _ => rfl⟩, F, this⟩
structure DR (P : Program) (N : Nat) (w0 : World) (U0 : Nat → Nat) (ops : Array Oper) (σ0 : AS) (k : Nat) (sk : List Sk) (σ : AS) (R : AS → Prop) : Prop where
  go : ∀ pl : Nat → Eff, (∀ i o, i < k → ops[i]? = some o → OpG P N w0 U0 ops o (ovs pl (fun _ => true) σ0 i) (pl i)) → (List.range k).map (fun i => (pl i).sk) = sk → ovs pl (fun _ => true) σ0 k = σ →
    ∀ a w, St N w0 U0 σ0 a w → ∀ Q, (∀ σ' a' w', R σ' → St N w0 U0 σ' a' w' → Q Exit.normal a' w') → wpAny P .any ops Q ops.size (Array.replicate ops.size false) a w
theorem ovs_congr {pl pl' : Nat → Eff} {p : Nat → Bool} {σ : AS} : ∀ n, (∀ k, k < n → pl k = pl' k) → ovs pl p σ n = ovs pl' p σ n := by
  intro n
  induction n with
  | zero => intro _; rfl
  | succ n ih => intro h; simp only [ovs, ih (fun k hk => h k (by omega)), h n (by omega)]
theorem dr_step {ops : Array Oper} {σ0 : AS} {k : Nat} {sk : List Sk} {o : Oper} {σ : AS} {e : Eff} {R : AS → Prop} (ho : ops[k]? = some o) (h : OpG P N w0 U0 ops o σ e) (hr : DR P N w0 U0 ops σ0 (k + 1) (sk ++ [e.sk]) (e.ap σ) R) : DR P N w0 U0 ops σ0 k sk σ R := by
  refine ⟨fun pl h1 h2 h3 => ?_⟩
  have hpl : ∀ i, i < k → pl i = (fun i => if i = k then e else pl i) i := fun i hi => by simp only; rw [if_neg (by omega)]
  refine hr.go (fun i => if i = k then e else pl i) (fun i o' hi ho' => ?_) ?_ ?_
  · by_cases hik : i = k
    · subst hik
      rw [ho] at ho'
      injection ho' with ho'
      subst ho'
      rw [← ovs_congr i hpl, h3]
      simp only [if_true]
      exact h
    · rw [← ovs_congr i (fun j hj => hpl j (by omega))]
      show OpG P N w0 U0 ops o' _ (if i = k then e else pl i)
      rw [if_neg hik]
      exact h1 i o' (by omega) ho'
  · rw [List.range_succ, List.map_append, ← h2]
    congr 1
    · apply List.map_congr_left
      intro i hi
      have hik : i < k := by simpa using hi
      show (if i = k then e else pl i).sk = (pl i).sk
      rw [if_neg (by omega)]
    · simp
  · simp only [ovs, if_true]
    rw [← ovs_congr k hpl, h3]
def frsB (sk : List Sk) (L : List (Nat × AV)) (M : List (Nat × Ob)) : Bool := sk.all fun s => s.fr.all fun m => freshB L M m
theorem dr_done {ops : Array Oper} {L0 : List (Nat × AV)} {M0 : List (Nat × Ob)} {k : Nat} {sk : List Sk} {σ : AS} {R : AS → Prop} (hk : k = ops.size) (hsep : sepB ops sk = true) (hfr : frsB sk L0 M0 = true) (h : R σ) : DR P N w0 U0 ops (SS L0 M0) k sk σ R := by
  refine ⟨fun pl h1 h2 h3 a w hs Q hQ => ?_⟩
  subst hk
  have hsk : ∀ i, i < ops.size → sk[i]? = some (pl i).sk := fun i hi => by rw [← h2]; simp [hi]
  simp only [sepB, Bool.and_eq_true] at hsep
  have hp : Plan P N w0 U0 ops (SS L0 M0) pl := by
    refine ⟨fun i o ho => h1 i o (Array.getElem?_eq_some_iff.1 ho).1 ho, fun i hi m hm => ?_, hsep.1, fun i j oi oj hij hoi hoj => ?_⟩
    · refine fresh_ss ?_
      have := List.all_eq_true.1 hfr (pl i).sk (List.mem_of_getElem? (hsk i hi))
      exact List.all_eq_true.1 this m hm
    · have hj : j < ops.size := (Array.getElem?_eq_some_iff.1 hoj).1
      have h4 := List.all_eq_true.1 (List.all_eq_true.1 hsep.2 j (by simpa using hj)) i (by simpa using hij)
      simp only [hsk i (by omega), hsk j hj, hoi, hoj, Bool.and_eq_true, Bool.or_eq_true] at h4
      obtain ⟨⟨h5, h6⟩, h7⟩ := h4
      exact ⟨h5, h6, h7.imp id (fun h => ⟨h.1.1.1, h.1.1.2, h.1.2, h.2⟩)⟩
  refine plan_any hp (fun a' w' hs' => hQ _ _ _ h (by rw [h3] at hs'; exact hs')) ops.size _ (by simp) ?_ ?_ a w ?_
  · have : (fun k => (Array.replicate ops.size false).getD k false) = fun _ => false := by
      funext k
      rw [Array.getD_eq_getD_getElem?, Array.getElem?_replicate]
      split <;> rfl
    rw [this]
    exact cnt_false _
  · intro j o ho hj
    simp only at hj
    rw [Array.getD_eq_getD_getElem?, Array.getElem?_replicate] at hj
    split at hj <;> cases hj
  · have : (fun k => (Array.replicate ops.size false).getD k false) = fun _ => false := by
      funext k
      rw [Array.getD_eq_getD_getElem?, Array.getElem?_replicate]
      split <;> rfl
    rw [this]
    have h0 : ∀ n, ovs pl (fun _ => false) (SS L0 M0) n = SS L0 M0 := by
      intro n
      induction n with
      | zero => rfl
      | succ n ihn => simp only [ovs, Bool.false_eq_true, if_false, ihn]
    rw [h0]
    exact hs
/-! ### bodies -/
structure A (P : Program) (N : Nat) (w0 : World) (U0 : Nat → Nat) (c : Code) (R : Exit → AS → Prop) (σ : AS) : Prop where
  go : ∀ a w, St N w0 U0 σ a w → ∀ Q, (∀ e σ' a' w', R e σ' → St N w0 U0 σ' a' w' → Q e a' w') → c.wp P Q a w
def thenR (k : AS → Prop) (R : Exit → AS → Prop) : Exit → AS → Prop
  | .normal, σ => k σ
  | e, σ => R e σ
def inBlk (id : Nat) (R : Exit → AS → Prop) : Exit → AS → Prop
  | .exit id', σ => bif Nat.beq id' id then R .normal σ else R (.exit id') σ
  | e, σ => R e σ
variable {R : Exit → AS → Prop} {σ : AS}
theorem a_skip (h : R .normal σ) : A P N w0 U0 .skip R σ := ⟨fun a w hs Q hQ => wp_skip (hQ _ _ _ _ h hs)⟩
theorem a_ret (h : R .ret σ) : A P N w0 U0 .ret R σ := ⟨fun a w hs Q hQ => wp_ret (hQ _ _ _ _ h hs)⟩
theorem a_exit {id : Nat} (h : R (.exit id) σ) : A P N w0 U0 (.exit id) R σ := ⟨fun a w hs Q hQ => wp_exit (hQ _ _ _ _ h hs)⟩
theorem a_seq {x y : Code} (h : A P N w0 U0 x (thenR (A P N w0 U0 y R) R) σ) : A P N w0 U0 (.seq x y) R σ := by
  refine ⟨fun a w hs Q hQ => ?_⟩
  refine wp_seq (h.go a w hs _ (fun e σ' a' w' hr hs' => ?_))
  cases e with
  | normal => exact A.go hr a' w' hs' Q hQ
  | _ => exact hQ _ _ _ _ hr hs'
theorem a_cond {c : Operand} {x y : Code} {b : Bool} (hc : σ.ev c = .d (.fl (.bool b))) (h1 : b = true → A P N w0 U0 x R σ) (h2 : b = false → A P N w0 U0 y R σ) : A P N w0 U0 (.cond c x y) R σ := by
  refine ⟨fun a w hs Q hQ => ?_⟩
  obtain ⟨F, hF⟩ := hs.f
  have hv : a.eval c = .bool b := by
    have := hF.ev c
    rw [hc] at this
    generalize a.eval c = v at this ⊢
    cases this
    rfl
  refine wp_cond_split hv (fun hb => (h1 hb).go a w hs Q hQ) (fun hb => (h2 hb).go a w hs Q hQ)
theorem a_block {id : Nat} {c : Code} (h : A P N w0 U0 c (inBlk id R) σ) : A P N w0 U0 (.block id c) R σ := by
  refine ⟨fun a w hs Q hQ => ?_⟩
  refine wp_block (h.go a w hs _ (fun e σ' a' w' hr hs' => ?_))
  cases e with
  | exit id' =>
    simp only [Exit.inBlock]
    have hr : (bif Nat.beq id' id then R .normal σ' else R (.exit id') σ') := hr
    by_cases hid : id' = id
    · subst hid
      rw [Nat.beq_refl] at hr
      rw [if_pos rfl]
      exact hQ _ _ _ _ hr hs'
    · rw [nbeq hid] at hr
      rw [if_neg hid]
      exact hQ _ _ _ _ hr hs'
  | _ => exact hQ _ _ _ _ hr hs'
def Imp (N : Nat) (w0 : World) (U0 : Nat → Nat) (σ τ : AS) : Prop := ∀ a w, St N w0 U0 σ a w → St N w0 U0 τ a w
theorem Imp.refl (σ : AS) : Imp N w0 U0 σ σ := fun _ _ h => h
theorem Imp.trans {σ τ υ : AS} (h : Imp N w0 U0 σ τ) (k : Imp N w0 U0 τ υ) : Imp N w0 U0 σ υ := fun a w hs => k a w (h a w hs)
theorem a_imp {c : Code} {τ : AS} (hi : Imp N w0 U0 σ τ) (h : A P N w0 U0 c R τ) : A P N w0 U0 c R σ := ⟨fun a w hs Q hQ => h.go a w (hi a w hs) Q hQ⟩
theorem a_mono {c : Code} {R' : Exit → AS → Prop} (h : A P N w0 U0 c R' σ) (hR : ∀ e σ', R' e σ' → R e σ') : A P N w0 U0 c R σ := ⟨fun a w hs Q hQ => h.go a w hs Q (fun e σ' a' w' hr hs' => hQ _ _ _ _ (hR _ _ hr) hs')⟩
/-- a loop: the states at its head are a family -/
theorem a_loop {c : Code} {ι : Type} (I : ι → AS) (ok : ι → Prop) (μ : ι → Nat) (i0 : ι) (hok : ok i0) (h0 : Imp N w0 U0 σ (I i0))
    (round : ∀ i, ok i → A P N w0 U0 c (thenR (fun σ' => ∃ i', ok i' ∧ μ i' < μ i ∧ Imp N w0 U0 σ' (I i')) R) (I i)) : A P N w0 U0 (.loop c) R σ := by
  refine ⟨fun a w hs Q hQ => ?_⟩
  have key : ∀ n i a w, μ i = n → ok i → St N w0 U0 (I i) a w → ∀ (b : Frame) (k : List Item) (cs : List Frame), ∃ e a' w', Q e a' w' ∧ Arrives P (lone (b.at a (.code c :: .inLoop c :: k)) cs w) b k cs e a' w' := by
    intro n
    induction n using Nat.strongRecOn with
    | _ n ih =>
      intro i a w hn hoi hsi b k cs
      obtain ⟨e, a₁, w₁, hq, harr⟩ := (round i hoi).go a w hsi (fun e a' w' => ∃ σ', thenR (fun σ' => ∃ i', ok i' ∧ μ i' < μ i ∧ Imp N w0 U0 σ' (I i')) R e σ' ∧ St N w0 U0 σ' a' w') (fun e σ' a' w' hr hs' => ⟨σ', hr, hs'⟩) b (.inLoop c :: k) cs
      obtain ⟨σ₁, hr, hs₁⟩ := hq
      cases e with
      | normal =>
        obtain ⟨i', hoi', hlt, himp⟩ := hr
        obtain ⟨e₂, a₂, w₂, hq₂, harr₂⟩ := ih (μ i') (hn ▸ hlt) i' a₁ w₁ rfl hoi' (himp _ _ hs₁) b k cs
        exact ⟨e₂, a₂, w₂, hq₂, .of_steps (Steps.trans harr (.one step_inLoop)) harr₂⟩
      | exit id => exact ⟨_, a₁, w₁, hQ _ _ _ _ hr hs₁, .pass (x := .inLoop c) rfl (fun _ _ => .inl (by simp)) harr⟩
      | goto l => exact ⟨_, a₁, w₁, hQ _ _ _ _ hr hs₁, .pass (x := .inLoop c) rfl (fun _ _ => .inl (by simp)) harr⟩
      | ret => exact ⟨_, a₁, w₁, hQ _ _ _ _ hr hs₁, .pass (x := .inLoop c) rfl (fun _ _ => .inl (by simp)) harr⟩
      | panic ch => exact ⟨_, a₁, w₁, hQ _ _ _ _ hr hs₁, .pass (x := .inLoop c) rfl (fun _ _ => .inl (by simp)) harr⟩
      | outgrown => exact ⟨_, a₁, w₁, hQ _ _ _ _ hr hs₁, .pass (x := .inLoop c) rfl (fun _ _ => .inl (by simp)) harr⟩
  intro b k cs
  obtain ⟨e, a', w', hq, harr⟩ := key _ i0 a w rfl hok (h0 _ _ hs) b k cs
  exact ⟨e, a', w', hq, .of_steps (.one step_loop) harr⟩
theorem a_region {id : Nat} {ops : Array Oper} (h : RG P N w0 U0 ops 0 σ (R .normal)) : A P N w0 U0 (.region id ops false) R σ :=
  ⟨fun a w hs Q hQ => rg_region h hs (fun σ' a' w' hr hs' => hQ _ _ _ _ hr hs')⟩
theorem a_draw {id : Nat} {ops : Array Oper} {L : List (Nat × AV)} {M : List (Nat × Ob)} (hm : P.follows .mixedOrders = true) (h : DR P N w0 U0 ops (SS L M) 0 [] (SS L M) (R .normal)) : A P N w0 U0 (.region id ops true) R (SS L M) :=
  ⟨fun a w hs Q hQ => wp_region_any hm (h.go (fun _ => ⟨none, [], [], []⟩) (fun i o hi => by omega) rfl rfl a _ (fits_drew hs) _ (fun σ' a' w' hr hs' => hQ _ _ _ _ hr hs'))⟩
/-! ### weaker states -/
def renA (ρ : Nat → Nat) : AV → AV
  | .pt m o => .pt (ρ m) o
  | .pe m z i j => .pe (ρ m) z i j
  | .pv m x => .pv (ρ m) x
  | .pw m x => .pw (ρ m) x
  | .ow m => .ow (ρ m)
  | v => v
def allT (ρ : Nat → Nat) (σ : AS) : List (Nat × AV) → Prop
  | [] => True
  | (t, v) :: l => (σ.t t = renA ρ v) ∧ allT ρ σ l
def allN (ρ : Nat → Nat) (σ : AS) : List (Nat × Ob) → Prop
  | [] => True
  | (m, o) :: l => (σ.n (ρ m) = o) ∧ allN ρ σ l
theorem allT_get {ρ : Nat → Nat} {L : List (Nat × AV)} (h : allT ρ σ L) (t : Nat) : lk L t = .un ∨ σ.t t = renA ρ (lk L t) := by
  induction L with
  | nil => exact .inl rfl
  | cons x L ih =>
    obtain ⟨k, v⟩ := x
    show (bif Nat.beq k t then v else lk L t) = .un ∨ σ.t t = renA ρ (bif Nat.beq k t then v else lk L t)
    cases hb : Nat.beq k t with
    | true => have := Nat.eq_of_beq_eq_true hb
              subst this
              exact .inr h.1
    | false => exact ih h.2
theorem allN_get {ρ : Nat → Nat} {M : List (Nat × Ob)} (h : allN ρ σ M) (m : Nat) : ln M m = .no ∨ (m ∈ M.map (·.1) ∧ σ.n (ρ m) = ln M m) := by
  induction M with
  | nil => exact .inl rfl
  | cons x M ih =>
    obtain ⟨k, v⟩ := x
    show (bif Nat.beq k m then v else ln M m) = .no ∨ (m ∈ k :: M.map (·.1) ∧ σ.n (ρ m) = (bif Nat.beq k m then v else ln M m))
    cases hb : Nat.beq k m with
    | true => have := Nat.eq_of_beq_eq_true hb
              subst this
              exact .inr ⟨List.mem_cons_self, h.1⟩
    | false => exact (ih h.2).imp id (fun h => ⟨List.mem_cons_of_mem _ h.1, h.2⟩)
def injB (ρ : Nat → Nat) (l : List Nat) : Bool := l.all fun a => l.all fun b => Nat.beq a b || !(Nat.beq (ρ a) (ρ b))
theorem imp_ren {L : List (Nat × AV)} {M : List (Nat × Ob)} (ρ : Nat → Nat) (hi : injB ρ (M.map (·.1)) = true) (hT : allT ρ σ L) (hN : allN ρ σ M) : Imp N w0 U0 σ (SS L M) := by
  intro a w hs
  obtain ⟨F, hF⟩ := hs.f
  refine ⟨hs.d, hs.s, hs.b, ⟨fun m => F.β (ρ m), fun m => F.γ (ρ m), F.U, fun m => F.S (ρ m)⟩, hF.u, fun t => ?_, fun m => ?_, fun m m' b h1 h2 h3 h4 => ?_⟩
  · show Rav w _ (lk L t) _
    rcases allT_get hT t with h | h
    · rw [h]; trivial
    · have := hF.t t
      rw [h] at this
      revert this
      cases lk L t <;> exact id
  · show Rob _ w _ m (ln M m)
    rcases allN_get hN m with h | ⟨_, h⟩
    · rw [h]; trivial
    · have := hF.n (ρ m)
      rw [h] at this
      revert this
      cases ln M m <;> exact id
  · have g1 : m ∈ M.map (·.1) ∧ σ.n (ρ m) = ln M m := (allN_get hN m).resolve_left (fun h => by have h1' : (ln M m).live = true := h1; rw [h] at h1'; cases h1')
    have g2 : m' ∈ M.map (·.1) ∧ σ.n (ρ m') = ln M m' := (allN_get hN m').resolve_left (fun h => by have h2' : (ln M m').live = true := h2; rw [h] at h2'; cases h2')
    have := hF.i (ρ m) (ρ m') b (by rw [g1.2]; exact h1) (by rw [g2.2]; exact h2) h3 h4
    have h5 := List.all_eq_true.1 (List.all_eq_true.1 hi m g1.1) m' g2.1
    simp only [this, Nat.beq_refl, Bool.not_true, Bool.or_false] at h5
    exact Nat.eq_of_beq_eq_true h5
theorem imp_forget {L : List (Nat × AV)} {M : List (Nat × Ob)} (hi : injB id (M.map (·.1)) = true) (hT : allT id σ L) (hN : allN id σ M) : Imp N w0 U0 σ (SS L M) := imp_ren id hi hT hN
theorem Rob.same {B : Nat} {w : World} {F F' : Fr} {m : Nat} {o : Ob} (h : Rob B w F m o) (hβ : F'.β m = F.β m) (hγ : F'.γ m = F.γ m) (hS : ∀ b, F'.S m b ↔ F.S m b) (hU : F'.U = F.U := by rfl) : Rob B w F' m o := by
  cases o with
  | no => trivial
  | bx ty cs =>
    obtain ⟨b, vs, h1, h2, h3, h4, h5, h6⟩ := h
    exact ⟨b, vs, hβ.trans h1, h2, by rw [hU]; exact h3, h4, by rw [hU]; exact h5, fun b' => (hS b').trans (h6 b')⟩
  | ow e z rows =>
    obtain ⟨xs, h1, h2, h3, h4, h5⟩ := h
    exact ⟨xs, by rw [hγ]; exact h1, by rw [hU]; exact h2, h3, fun b => by rw [hγ]; exact (hS b).trans (h4 b), fun b hb => by rw [hU]; exact h5 b ((hS b).1 hb)⟩
  | tr e z rows =>
    obtain ⟨xs, T, h1, h2, h3, h4, h5⟩ := h
    exact ⟨xs, T, by rw [hγ]; exact h1, by rw [hU]; exact h2, h3, by rw [hγ, hU]; exact h4, fun b => by rw [hγ]; exact (hS b).trans (h5 b)⟩
  | bt ty cs =>
    obtain ⟨b, vs, T, h1, h2, h3, h4, h5, h6, h7⟩ := h
    exact ⟨b, vs, T, hβ.trans h1, h2, by rw [hU]; exact h3, h4, by rw [hU]; exact h5, h6, fun b' => (hS b').trans (h7 b')⟩
  | sv cs =>
    obtain ⟨vs, T, h1, h2, h3⟩ := h
    exact ⟨vs, T, hγ.trans h1, by rw [hU]; exact h2, fun b => (hS b).trans (h3 b)⟩
  | mp ents =>
    obtain ⟨b, es, c, h1, h2, h3, h4, h5, h6⟩ := h
    exact ⟨b, es, c, hγ.trans h1, h2, by rw [hU]; exact h3, h4, by rw [hU]; exact h5, fun b' => (hS b').trans (h6 b')⟩
  | it s p =>
    obtain ⟨b, h1, h2, h3, h4, h6⟩ := h
    exact ⟨b, hγ.trans h1, h2, by rw [hU]; exact h3, h4, fun b' => (hS b').trans (h6 b')⟩
  | pin H V Q =>
    obtain ⟨h1, h2⟩ := h
    exact ⟨fun b => (hS b).trans (h1 b), by rw [hU]; exact h2⟩
/-- a nil slice is a row of the call's own -/
theorem imp_nil {L : List (Nat × AV)} {M : List (Nat × Ob)} (t m : Nat) (e : TypeId) (z : Nat) (ht : lk L t = .d (.fl (.slice none 0 0))) (hf : freshB L M m = true) : Imp N w0 U0 (SS L M) (SS ((t, .ow m) :: L) ((m, .ow e z []) :: M)) := by
  intro a w hs
  obtain ⟨F, hF⟩ := hs.f
  have hfr := fresh_ss hf
  have hv : a.tmps.getD t undef = .slice none 0 0 := by
    have : Rav w F (lk L t) _ := hF.t t
    rw [ht] at this
    generalize a.tmps.getD t undef = v at this ⊢
    cases this
    rfl
  refine ⟨hs.d, hs.s, hs.b, ⟨fun k => if k = m then none else F.β k, fun k => if k = m then .slice none 0 0 else F.γ k, F.U, fun k b => k ≠ m ∧ F.S k b⟩, hF.u, fun k => ?_, fun k => ?_, fun k k' b h1 h2 h3 h4 => ?_⟩
  · show Rav w _ (bif Nat.beq t k then AV.ow m else lk L k) _
    cases hb : Nat.beq t k with
    | true =>
      have := Nat.eq_of_beq_eq_true hb
      subst this
      show _ = (if m = m then _ else _)
      rw [if_pos rfl, hv]
    | false =>
      have h1 : Rav w F (lk L k) _ := hF.t k
      have h2 : (lk L k).says m = false := hfr.2 k
      revert h1 h2
      cases lk L k with
      | pt m' o =>
        intro h1 h2
        have h2' : (m' == m) = false := h2
        obtain ⟨b, h3, h4⟩ := h1
        exact ⟨b, by show (if m' = m then none else F.β m') = some b; rw [if_neg (by simpa using h2')]; exact h3, h4⟩
      | pe m' z' i j =>
        intro h1 h2
        have h2' : (m' == m) = false := h2
        obtain ⟨b, h3, h4⟩ := h1
        exact ⟨b, by show (if m' = m then _ else F.γ m').ownBlock = some b; rw [if_neg (by simpa using h2')]; exact h3, h4⟩
      | ow m' =>
        intro h1 h2
        have h2' : (m' == m) = false := h2
        show _ = (if m' = m then _ else F.γ m')
        rw [if_neg (by simpa using h2')]
        exact h1
      | pv m' x =>
        intro h1 h2
        have h2' : (m' == m) = false := h2
        obtain ⟨h5, b, h3, h4⟩ := h1
        exact ⟨h5, b, by show (if m' = m then none else F.β m') = some b; rw [if_neg (by simpa using h2')]; exact h3, h4⟩
      | pw m' x =>
        intro h1 h2
        have h2' : (m' == m) = false := h2
        exact ⟨h1.1, by show _ = (if m' = m then _ else F.γ m'); rw [if_neg (by simpa using h2')]; exact h1.2⟩
      | _ => exact fun h1 _ => h1
  · show Rob _ w _ k (bif Nat.beq m k then _ else ln M k)
    cases hb : Nat.beq m k with
    | true =>
      have := Nat.eq_of_beq_eq_true hb
      subst this
      refine ⟨[], ?_, ⟨⟨rfl, fun j u x h => by simp at h⟩, (fun u hu => by cases hu)⟩, (fun r hr => by cases hr), fun b => ?_, fun b h => ?_⟩
      · simp only [if_true]; exact World.ownsRow_nil _ _ _ _
      · simp only [if_true]
        constructor
        · intro h; exact absurd rfl h.1
        · intro h; cases h
      · exact absurd rfl h.1
    | false =>
      have hne : k ≠ m := fun e => by rw [e, Nat.beq_refl] at hb; cases hb
      have h1 : Rob _ w F k (ln M k) := hF.n k
      refine Rob.same h1 ?_ ?_ ?_
      · show (if k = m then _ else F.β k) = F.β k; rw [if_neg hne]
      · show (if k = m then _ else F.γ k) = F.γ k; rw [if_neg hne]
      · intro b; exact ⟨fun h => h.2, fun h => ⟨hne, h⟩⟩
  · by_cases e1 : k = m
    · exact absurd e1 h3.1
    · by_cases e2 : k' = m
      · exact absurd e2 h4.1
      · have g : ∀ j, j ≠ m → ((SS ((t, .ow m) :: L) ((m, .ow e z []) :: M)).n j) = ln M j := fun j hj => by
          show (bif Nat.beq m j then _ else ln M j) = ln M j
          rw [nbeq (Ne.symm hj)]; rfl
        rw [g k e1] at h1
        rw [g k' e2] at h2
        exact hF.i k k' b h1 h2 h3.2 h4.2
end
end Go.Proofs.Yteplcjhnmmpicaa.Av
