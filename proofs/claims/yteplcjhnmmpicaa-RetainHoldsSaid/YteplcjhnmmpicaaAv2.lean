/- A region in the words of the state: in the text's order, and in whatever order it is drawn. No condition. -/
import Derived.Test.YteplcjhnmmpicaaAv1
set_option linter.unusedSimpArgs false
set_option linter.unusedVariables false
namespace Go.Proofs.Yteplcjhnmmpicaa.Av
open Go Go.RowKit
section
variable {P : Program} {N : Nat} {w0 : World} {U0 : Nat → Nat}
/-- an operation with its guard -/
def OpG (P : Program) (N : Nat) (w0 : World) (U0 : Nat → Nat) (ops : Array Oper) (o : Oper) (σ : AS) (e : Eff) : Prop :=
  match o.guard with
  | none => OpS P N w0 U0 o σ e
  | some (j, want) => ∃ d u, ((ops[j]?).bind (·.dst)) = some d ∧ σ.t d = .d (.fl u) ∧ ((u = .bool want ∧ OpS P N w0 U0 o σ e) ∨ ((∀ b, u = .bool b → b ≠ want) ∧ e = ⟨o.dst.map fun d => (d, .d (.fl undef)), [], [], []⟩))
def tmpsG (ops : Array Oper) (o : Oper) : List Tmp := tmpsOf o ++ (match o.guard with | some (j, _) => ((ops[j]?).bind (·.dst)).toList | none => [])
theorem nbeq {a b : Nat} (h : a ≠ b) : Nat.beq a b = false := by
  cases hb : Nat.beq a b with
  | false => rfl
  | true => exact absurd (Nat.eq_of_beq_eq_true hb) h
theorem Fits.put_un {σ : AS} {a : Act} {w : World} {F : Fr} (h : Fits w0 U0 σ a w F) (d : Option Nat) : Fits w0 U0 ((⟨d.map fun d => (d, .d (.fl undef)), [], [], []⟩ : Eff).ap σ) (a.put d undef) w F := by
  refine ⟨h.u, fun t => ?_, h.n, h.i⟩
  cases d with
  | none => exact h.t t
  | some d =>
    show Rav w F (bif Nat.beq d t then AV.d (.fl undef) else σ.t t) ((a.tmps.setIfInBounds d undef).getD t undef)
    by_cases hd : d = t
    · subst hd
      rw [Nat.beq_refl]
      have : (a.tmps.setIfInBounds d undef).getD d undef = undef := by
        rw [Array.getD_eq_getD_getElem?, Array.getElem?_setIfInBounds]
        split
        · split <;> rfl
        · cases a.tmps[d]? <;> simp_all
      rw [this]
      exact Rd.fl undef
    · have hb : Nat.beq d t = false := nbeq hd
      rw [hb]
      have := h.t t
      simpa [Array.getElem?_setIfInBounds_ne hd] using this
theorem put_size (a : Act) (d : Option Nat) (v : Value) : (a.put d v).tmps.size = a.tmps.size := by cases d <;> simp [Act.put]
theorem put_defers (a : Act) (d : Option Nat) (v : Value) : (a.put d v).defers = a.defers := by cases d <;> rfl
/-- what is read of the state, guard and all -/
structure Eff.okG (e : Eff) (ops : Array Oper) (o : Oper) (σ σ' : AS) : Prop where
  t : ∀ t ∈ tmpsG ops o, σ'.t t = σ.t t
  n : ∀ m ∈ e.rn, σ'.n m = σ.n m
  f : ∀ m ∈ e.fr, fresh σ' m
theorem opG_run {ops : Array Oper} {i : Nat} {o : Oper} {σ σ' : AS} {e : Eff} (ho : ops[i]? = some o) (h : OpG P N w0 U0 ops o σ e) (hk : e.okG ops o σ σ') {a : Act} {w : World} (hs : St N w0 U0 σ' a w)
    {K : Act → World → Prop} {Q : Exit → Act → World → Prop} (hK : ∀ a' w', St N w0 U0 (e.ap σ') a' w' → K a' w') : wpOp P ops Q i K a w := by
  unfold wpOp
  rw [ho]
  simp only
  have hok : e.ok o σ σ' := ⟨fun t ht => hk.t t (List.mem_append.2 (.inl ht)), hk.n, hk.f⟩
  unfold OpG at h
  cases hg : o.guard with
  | none =>
    rw [hg] at h
    have hw : Region.wanted o (yielded ops a.tmps) = true := by simp [Region.wanted, hg]
    rw [if_pos hw]
    exact .inl (h σ' hok a w hs K Q hK)
  | some g =>
    obtain ⟨j, want⟩ := g
    rw [hg] at h
    obtain ⟨d, u, h1, h2, h3⟩ := h
    have hd : σ'.t d = .d (.fl u) := by
      rw [hk.t d (by unfold tmpsG; rw [hg]; exact List.mem_append.2 (.inr (by simp [h1]))), h2]
    obtain ⟨F, hF⟩ := hs.f
    have hv : a.tmps.getD d undef = u := by
      have := hF.t d
      rw [hd] at this
      generalize hx : a.tmps.getD d undef = x at this ⊢
      cases this
      rfl
    have hy : ∀ b, yielded ops a.tmps j = some b ↔ u = .bool b := by
      intro b
      unfold yielded
      rw [h1]
      simp only [Option.bind_some]
      rw [Array.getD_eq_getD_getElem?] at hv
      cases hq : a.tmps[d]? with
      | none => rw [hq] at hv; subst hv; simp [undef]
      | some x => rw [hq] at hv; simp at hv; subst hv; cases x <;> simp
    rcases h3 with ⟨h3, h4⟩ | ⟨h3, rfl⟩
    · rw [if_pos (by simp [Region.wanted, hg, (hy want).2 h3])]
      exact .inl (h4 σ' hok a w hs K Q hK)
    · rw [if_neg (by
        simp only [Region.wanted, hg, beq_iff_eq]
        exact fun h => h3 want ((hy want).1 h) rfl)]
      exact hK _ _ ⟨by rw [put_defers]; exact hs.d, by rw [put_size]; exact hs.s, hs.b, F, hF.put_un _⟩
/-! ### in the text's order -/
structure RG (P : Program) (N : Nat) (w0 : World) (U0 : Nat → Nat) (ops : Array Oper) (k : Nat) (σ : AS) (R : AS → Prop) : Prop where
  go : ∀ a w, St N w0 U0 σ a w → ∀ Q, (∀ σ' a' w', R σ' → St N w0 U0 σ' a' w' → Q Exit.normal a' w') → wpOps P ops Q ((List.range (ops.size - k)).map (· + k)) a w
theorem rg_done {ops : Array Oper} {k : Nat} {σ : AS} {R : AS → Prop} (hk : k = ops.size) (h : R σ) : RG P N w0 U0 ops k σ R := by
  refine ⟨fun a w hs Q hQ => ?_⟩
  subst hk
  simp only [Nat.sub_self, List.range_zero, List.map_nil, wpOps]
  exact hQ _ _ _ h hs
theorem rg_step {ops : Array Oper} {k : Nat} {o : Oper} {σ : AS} {e : Eff} {R : AS → Prop} (ho : ops[k]? = some o) (h : OpG P N w0 U0 ops o σ e) (hf : ∀ m ∈ e.fr, fresh σ m) (hr : RG P N w0 U0 ops (k + 1) (e.ap σ) R) : RG P N w0 U0 ops k σ R := by
  refine ⟨fun a w hs Q hQ => ?_⟩
  have hlt : k < ops.size := (Array.getElem?_eq_some_iff.1 ho).1
  have e1 : ((List.range (ops.size - k)).map (· + k)) = k :: ((List.range (ops.size - (k + 1))).map (· + (k + 1))) := by
    rw [show ops.size - k = (ops.size - (k + 1)) + 1 by omega, List.range_succ_eq_map]
    simp only [List.map_cons, Nat.zero_add, List.map_map, List.cons.injEq, true_and]
    apply List.map_congr_left
    intro x _
    show x + 1 + k = x + (k + 1)
    omega
  rw [e1, wpOps_cons]
  exact opG_run ho h ⟨fun _ _ => rfl, fun _ _ => rfl, hf⟩ hs (fun a' w' hs' => hr.go a' w' hs' Q hQ)
theorem rg_region {ops : Array Oper} {id : Nat} {σ : AS} {R : AS → Prop} (h : RG P N w0 U0 ops 0 σ R) {a : Act} {w : World} (hs : St N w0 U0 σ a w) {Q : Exit → Act → World → Prop} (hQ : ∀ σ' a' w', R σ' → St N w0 U0 σ' a' w' → Q Exit.normal a' w') :
    (Code.region id ops false).wp P Q a w := by
  refine wp_region ?_
  have := h.go a w hs Q hQ
  simpa using this
/-! ### in a drawn order -/
/-- what an operation reads and writes, without the values -/
structure Sk where
  tw : Option Nat
  nw : List Nat
  rn : List Nat
  fr : List Nat
  sy : List Nat
def AV.names : AV → List Nat
  | .pt m _ => [m]
  | .pe m _ _ _ => [m]
  | .pv m _ => [m]
  | .pw m _ => [m]
  | .ow m => [m]
  | _ => []
theorem AV.says_names (v : AV) (k : Nat) (h : v.names.contains k = false) : v.says k = false := by
  cases v with
  | pt m o =>
    show (m == k) = false
    simp [AV.names] at h
    simp
    omega
  | pe m z i j =>
    show (m == k) = false
    simp [AV.names] at h
    simp
    omega
  | pv m x =>
    show (m == k) = false
    simp [AV.names] at h
    simp
    omega
  | pw m x =>
    show (m == k) = false
    simp [AV.names] at h
    simp
    omega
  | ow m =>
    show (m == k) = false
    simp [AV.names] at h
    simp
    omega
  | _ => rfl
def Eff.sk (e : Eff) : Sk := ⟨e.tw.map (·.1), e.nw.map (·.1), e.rn, e.fr, match e.tw with | some (_, v) => v.names | none => []⟩
def disj (a b : List Nat) : Bool := a.all fun x => !b.contains x
/-- the second may run beside the first -/
def half (ops : Array Oper) (x y : Sk) (oy : Oper) : Bool :=
  (match x.tw with | some d => !(tmpsG ops oy).contains d && y.tw != some d | none => true) && disj x.nw y.nw && disj x.nw y.rn
def bfB (ops : Array Oper) : Nat → Nat → Nat → Bool
  | 0, _, _ => false
  | n + 1, i, j => match ops[j]? with
    | none => false
    | some o => o.after.any fun e => Region.binds .any e && (e.on == i || bfB ops n i e.on)
def upB' (ops : Array Oper) : Bool := (List.range ops.size).all fun j => match ops[j]? with
  | none => true
  | some o => o.after.all fun e => !Region.binds .any e || decide (e.on < j)
def sepB (ops : Array Oper) (sk : List Sk) : Bool :=
  upB' ops && (List.range ops.size).all fun j => (List.range j).all fun i =>
    match sk[i]?, sk[j]?, ops[i]?, ops[j]? with
      | some x, some y, some oi, some oj => disj y.fr x.nw && disj y.fr x.sy && (bfB ops ops.size i j || (half ops x y oj && half ops y x oi && disj x.fr y.nw && disj x.fr y.sy))
      | _, _, _, _ => false
def ovs (pl : Nat → Eff) (p : Nat → Bool) (σ : AS) : Nat → AS
  | 0 => σ
  | k + 1 => if p k then (pl k).ap (ovs pl p σ k) else ovs pl p σ k
def wT (e : Eff) (t : Nat) : Bool := e.tw.any fun x => Nat.beq x.1 t
def wN (e : Eff) (m : Nat) : Bool := (nwGet e.nw m).isSome
theorem ap_t_no {e : Eff} {σ : AS} {t : Nat} (h : wT e t = false) : (e.ap σ).t t = σ.t t := by
  unfold Eff.ap
  simp only
  unfold wT at h
  cases he : e.tw with
  | none => rfl
  | some x => rw [he] at h; simp only [Option.any_some] at h; simp only [h, cond_false]
theorem ap_t_yes {e : Eff} {σ σ' : AS} {t : Nat} (h : wT e t = true) : (e.ap σ).t t = (e.ap σ').t t := by
  unfold Eff.ap
  simp only
  unfold wT at h
  cases he : e.tw with
  | none => rw [he] at h; simp at h
  | some x => rw [he] at h; simp only [Option.any_some] at h; simp only [h, cond_true]
theorem ap_n_no {e : Eff} {σ : AS} {m : Nat} (h : wN e m = false) : (e.ap σ).n m = σ.n m := by
  unfold Eff.ap
  simp only
  unfold wN at h
  cases he : nwGet e.nw m with
  | none => rfl
  | some x => rw [he] at h; simp at h
theorem ap_n_yes {e : Eff} {σ σ' : AS} {m : Nat} (h : wN e m = true) : (e.ap σ).n m = (e.ap σ').n m := by
  unfold Eff.ap
  simp only
  unfold wN at h
  cases he : nwGet e.nw m with
  | none => rw [he] at h; simp at h
  | some x => rfl
theorem ovs_t {pl : Nat → Eff} {p q : Nat → Bool} {σ : AS} {t : Nat} : ∀ n, (∀ k, k < n → wT (pl k) t = true → p k = q k) → (ovs pl p σ n).t t = (ovs pl q σ n).t t := by
  intro n
  induction n with
  | zero => intro _; rfl
  | succ n ih =>
    intro h
    have ih' := ih (fun k hk => h k (by omega))
    simp only [ovs]
    cases hw : wT (pl n) t with
    | false =>
      have e1 : ∀ r : Nat → Bool, (if r n then (pl n).ap (ovs pl r σ n) else ovs pl r σ n).t t = (ovs pl r σ n).t t := by
        intro r
        split
        · exact ap_t_no hw
        · rfl
      rw [e1 p, e1 q, ih']
    | true =>
      rw [h n (by omega) hw]
      split
      · exact ap_t_yes hw
      · exact ih'
theorem ovs_n {pl : Nat → Eff} {p q : Nat → Bool} {σ : AS} {m : Nat} : ∀ n, (∀ k, k < n → wN (pl k) m = true → p k = q k) → (ovs pl p σ n).n m = (ovs pl q σ n).n m := by
  intro n
  induction n with
  | zero => intro _; rfl
  | succ n ih =>
    intro h
    have ih' := ih (fun k hk => h k (by omega))
    simp only [ovs]
    cases hw : wN (pl n) m with
    | false =>
      have e1 : ∀ r : Nat → Bool, (if r n then (pl n).ap (ovs pl r σ n) else ovs pl r σ n).n m = (ovs pl r σ n).n m := by
        intro r
        split
        · exact ap_n_no hw
        · rfl
      rw [e1 p, e1 q, ih']
    | true =>
      rw [h n (by omega) hw]
      split
      · exact ap_n_yes hw
      · exact ih'
/-- one more operation, behind which none writes what it writes -/
theorem ovs_ins {pl : Nat → Eff} {p q : Nat → Bool} {σ : AS} {i n : Nat} (hi : i < n) (hp : p i = false) (hq : ∀ k, q k = (p k || k == i))
    (hT : ∀ k t, i < k → k < n → p k = true → wT (pl i) t = true → wT (pl k) t = false) (hN : ∀ k m, i < k → k < n → p k = true → wN (pl i) m = true → wN (pl k) m = false) :
    ovs pl q σ n = (pl i).ap (ovs pl p σ n) := by
  have key : ∀ n, i < n → (∀ k t, i < k → k < n → p k = true → wT (pl i) t = true → wT (pl k) t = false) → (∀ k m, i < k → k < n → p k = true → wN (pl i) m = true → wN (pl k) m = false) →
      (∀ t, (ovs pl q σ n).t t = ((pl i).ap (ovs pl p σ n)).t t) ∧ (∀ m, (ovs pl q σ n).n m = ((pl i).ap (ovs pl p σ n)).n m) := by
    intro n
    induction n with
    | zero => intro h; omega
    | succ n ih =>
      intro hlt hT hN
      by_cases hin : i = n
      · subst hin
        have hqi : q i = true := by rw [hq]; simp
        simp only [ovs, hqi, hp, if_true, Bool.false_eq_true, if_false]
        have e1 : ∀ k, k < i → p k = q k := fun k hk => by rw [hq]; have : (k == i) = false := by simp; omega
                                                           rw [this, Bool.or_false]
        constructor
        · intro t
          cases hw : wT (pl i) t with
          | false => rw [ap_t_no hw, ap_t_no hw]; exact (ovs_t i (fun k hk _ => e1 k hk)).symm
          | true => exact ap_t_yes hw
        · intro m
          cases hw : wN (pl i) m with
          | false => rw [ap_n_no hw, ap_n_no hw]; exact (ovs_n i (fun k hk _ => e1 k hk)).symm
          | true => exact ap_n_yes hw
      · obtain ⟨h1, h2⟩ := ih (by omega) (fun k t a b => hT k t a (by omega)) (fun k m a b => hN k m a (by omega))
        have hqn : q n = p n := by rw [hq]; have : (n == i) = false := by simp; omega
                                   rw [this, Bool.or_false]
        simp only [ovs, hqn]
        cases hpn : p n with
        | false => simp only [Bool.false_eq_true, if_false]; exact ⟨h1, h2⟩
        | true =>
          simp only [if_true]
          constructor
          · intro t
            cases hw : wT (pl i) t with
            | true => rw [ap_t_no (hT n t (by omega) (by omega) hpn hw), h1 t]; exact ap_t_yes hw
            | false =>
              rw [ap_t_no hw]
              cases hwn : wT (pl n) t with
              | true => exact ap_t_yes hwn
              | false => rw [ap_t_no hwn, ap_t_no hwn, h1 t, ap_t_no hw]
          · intro m
            cases hw : wN (pl i) m with
            | true => rw [ap_n_no (hN n m (by omega) (by omega) hpn hw), h2 m]; exact ap_n_yes hw
            | false =>
              rw [ap_n_no hw]
              cases hwn : wN (pl n) m with
              | true => exact ap_n_yes hwn
              | false => rw [ap_n_no hwn, ap_n_no hwn, h2 m, ap_n_no hw]
  obtain ⟨h1, h2⟩ := key n hi hT hN
  generalize ovs pl q σ n = x at *
  generalize (pl i).ap (ovs pl p σ n) = y at *
  obtain ⟨xt, xn⟩ := x
  obtain ⟨yt, yn⟩ := y
  have e1 : xt = yt := funext h1
  have e2 : xn = yn := funext h2
  rw [e1, e2]

theorem disj_spec {a b : List Nat} (h : disj a b = true) {x : Nat} (ha : x ∈ a) (hb : x ∈ b) : False := by
  unfold disj at h
  have := List.all_eq_true.1 h x ha
  simp [hb] at this
theorem wT_sk {e : Eff} {t : Nat} (h : wT e t = true) : e.sk.tw = some t := by
  unfold wT at h
  unfold Eff.sk
  cases he : e.tw with
  | none => rw [he] at h; simp at h
  | some x => rw [he] at h; simp only [Option.any_some] at h; simp [Nat.eq_of_beq_eq_true h]
theorem nwGet_mem {l : List (Nat × Ob)} {m : Nat} (h : (nwGet l m).isSome = true) : m ∈ l.map (·.1) := by
  induction l with
  | nil => simp [nwGet] at h
  | cons x l ih =>
    unfold nwGet at h
    cases hb : Nat.beq x.1 m with
    | true => simp [Nat.eq_of_beq_eq_true hb]
    | false => rw [hb] at h; simp only [cond_false] at h; simp [ih h]
theorem wN_sk {e : Eff} {m : Nat} (h : wN e m = true) : m ∈ e.sk.nw := nwGet_mem h
theorem half_t {ops : Array Oper} {x y : Sk} {oy : Oper} (h : half ops x y oy = true) {t : Nat} (hx : x.tw = some t) : t ∉ tmpsG ops oy ∧ y.tw ≠ some t := by
  unfold half at h
  rw [hx] at h
  simp only [Bool.and_eq_true, Bool.not_eq_true', bne_iff_ne] at h
  obtain ⟨⟨⟨h1, h2⟩, _⟩, _⟩ := h
  exact ⟨fun hm => by simp [hm] at h1, h2⟩
theorem half_n {ops : Array Oper} {x y : Sk} {oy : Oper} (h : half ops x y oy = true) {m : Nat} (hx : m ∈ x.nw) : m ∉ y.nw ∧ m ∉ y.rn := by
  unfold half at h
  simp only [Bool.and_eq_true] at h
  obtain ⟨⟨_, h3⟩, h4⟩ := h
  exact ⟨fun hm => disj_spec h3 hx hm, fun hm => disj_spec h4 hx hm⟩
/-- whoever is listed has all listed that come before -/
def Closed (ops : Array Oper) (p : Nat → Bool) : Prop := ∀ j o, ops[j]? = some o → p j = true → ∀ e ∈ o.after, Region.binds .any e = true → p e.on = true
theorem bf_closed {ops : Array Oper} {p : Nat → Bool} (hc : Closed ops p) : ∀ n i j o, ops[j]? = some o → (∀ e ∈ o.after, Region.binds .any e = true → p e.on = true) → bfB ops n i j = true → p i = true := by
  intro n
  induction n with
  | zero => intro i j o _ _ h; simp [bfB] at h
  | succ n ih =>
    intro i j o ho hd h
    simp only [bfB, ho] at h
    obtain ⟨e, he, hb⟩ := Array.any_eq_true'.1 h
    simp only [Bool.and_eq_true, Bool.or_eq_true, beq_iff_eq] at hb
    obtain ⟨h1, h2⟩ := hb
    have hp := hd e he h1
    rcases h2 with h2 | h2
    · rw [← h2]; exact hp
    · cases hoe : ops[e.on]? with
      | none =>
        cases n with
        | zero => simp [bfB] at h2
        | succ n => simp [bfB, hoe] at h2
      | some o2 => exact ih i e.on o2 hoe (hc e.on o2 hoe hp) h2
structure Plan (P : Program) (N : Nat) (w0 : World) (U0 : Nat → Nat) (ops : Array Oper) (σ : AS) (pl : Nat → Eff) : Prop where
  op : ∀ i o, ops[i]? = some o → OpG P N w0 U0 ops o (ovs pl (fun _ => true) σ i) (pl i)
  fr : ∀ i, i < ops.size → ∀ m ∈ (pl i).fr, fresh σ m
  up : upB' ops = true
  sep : ∀ i j oi oj, i < j → ops[i]? = some oi → ops[j]? = some oj → disj (pl j).sk.fr (pl i).sk.nw = true ∧ disj (pl j).sk.fr (pl i).sk.sy = true ∧
    (bfB ops ops.size i j = true ∨ (half ops (pl i).sk (pl j).sk oj = true ∧ half ops (pl j).sk (pl i).sk oi = true ∧ disj (pl i).sk.fr (pl j).sk.nw = true ∧ disj (pl i).sk.fr (pl j).sk.sy = true))
theorem ovs_pre {pl : Nat → Eff} {σ : AS} {i : Nat} : ∀ n, i ≤ n → ovs pl (fun k => decide (k < i)) σ n = ovs pl (fun _ => true) σ i := by
  intro n
  induction n with
  | zero => intro h; have : i = 0 := by omega
            subst this; rfl
  | succ n ih =>
    intro h
    by_cases hi : i = n + 1
    · subst hi
      have : ∀ k, k ≤ n + 1 → ovs pl (fun k => decide (k < n + 1)) σ k = ovs pl (fun _ => true) σ k := by
        intro k
        induction k with
        | zero => intro _; rfl
        | succ k ihk => intro hk; simp only [ovs, ihk (by omega), if_true]; rw [if_pos (by simp; omega)]
      exact this _ (Nat.le_refl _)
    · simp only [ovs]
      rw [if_neg (by simp; omega)]
      exact ih (by omega)
theorem ovs_all {pl : Nat → Eff} {σ : AS} {p : Nat → Bool} : ∀ n, (∀ k, k < n → p k = true) → ovs pl p σ n = ovs pl (fun _ => true) σ n := by
  intro n
  induction n with
  | zero => intro _; rfl
  | succ n ih => intro h; simp only [ovs, ih (fun k hk => h k (by omega)), h n (by omega)]
def cnt (p : Nat → Bool) : Nat → Nat
  | 0 => 0
  | k + 1 => cnt p k + if p k then 0 else 1
theorem cnt_zero {p : Nat → Bool} : ∀ n, cnt p n = 0 → ∀ k, k < n → p k = true := by
  intro n
  induction n with
  | zero => intro _ k h; omega
  | succ n ih =>
    intro h k hk
    simp only [cnt] at h
    by_cases hkn : k = n
    · subst hkn
      cases hp : p k with
      | true => rfl
      | false => rw [hp] at h; simp at h
    · exact ih (by omega) k (by omega)
theorem cnt_pos {p : Nat → Bool} : ∀ n, cnt p n ≠ 0 → ∃ k, k < n ∧ p k = false := by
  intro n
  induction n with
  | zero => intro h; simp [cnt] at h
  | succ n ih =>
    intro h
    cases hp : p n with
    | false => exact ⟨n, by omega, hp⟩
    | true =>
      simp only [cnt, hp, if_true, Nat.add_zero] at h
      obtain ⟨k, hk, h2⟩ := ih h
      exact ⟨k, by omega, h2⟩
theorem cnt_eq {p q : Nat → Bool} : ∀ n, (∀ k, k < n → p k = q k) → cnt p n = cnt q n := by
  intro n
  induction n with
  | zero => intro _; rfl
  | succ n ih => intro h; simp only [cnt, ih (fun k hk => h k (by omega)), h n (by omega)]
theorem cnt_ins {p q : Nat → Bool} {i : Nat} (hp : p i = false) (hq : ∀ k, q k = (p k || k == i)) : ∀ n, i < n → cnt q n + 1 = cnt p n := by
  intro n
  induction n with
  | zero => intro h; omega
  | succ n ih =>
    intro h
    by_cases hin : i = n
    · subst hin
      have : cnt q i = cnt p i := cnt_eq i (fun k hk => by
        have hki : (k == i) = false := by simp; omega
        rw [hq, hki, Bool.or_false])
      simp only [cnt, this, hp, hq, beq_self_eq_true, Bool.or_true, if_true, Bool.false_eq_true, if_false]
    · have := ih (by omega)
      have hqn : q n = p n := by rw [hq]; have : (n == i) = false := by simp; omega
                                 rw [this, Bool.or_false]
      simp only [cnt, hqn]
      omega
theorem cnt_false : ∀ n, cnt (fun _ => false) n = n := by
  intro n
  induction n with
  | zero => rfl
  | succ n ih => simp only [cnt, ih, Bool.false_eq_true, if_false]
theorem up_spec {ops : Array Oper} (h : upB' ops = true) {j : Nat} {o : Oper} (ho : ops[j]? = some o) : ∀ e ∈ o.after, Region.binds .any e = true → e.on < j := by
  intro e he hb
  have hlt : j < ops.size := (Array.getElem?_eq_some_iff.1 ho).1
  unfold upB' at h
  have h1 := List.all_eq_true.1 h j (by simpa using hlt)
  simp only [ho] at h1
  have h2 := Array.all_eq_true_iff_forall_mem.1 h1 e he
  simpa [hb] using h2
/-- in whatever order -/
theorem plan_any {ops : Array Oper} {σ : AS} {pl : Nat → Eff} (hp : Plan P N w0 U0 ops σ pl) {Q : Exit → Act → World → Prop} (hQ : ∀ a w, St N w0 U0 (ovs pl (fun _ => true) σ ops.size) a w → Q Exit.normal a w) :
    ∀ fuel (listed : Array Bool), listed.size = ops.size → cnt (fun k => listed.getD k false) ops.size = fuel → Closed ops (fun k => listed.getD k false) → ∀ a w, St N w0 U0 (ovs pl (fun k => listed.getD k false) σ ops.size) a w → wpAny P .any ops Q fuel listed a w := by
  intro fuel
  induction fuel with
  | zero =>
    intro listed hsz hc hcl a w hs
    have hall := cnt_zero _ hc
    refine ⟨?_, hQ a w (by rw [ovs_all ops.size hall] at hs; exact hs)⟩
    rw [List.eq_nil_iff_forall_not_mem]
    intro j hj
    obtain ⟨h1, o, ho, _⟩ := mem_ready.1 hj
    have hlt : j < ops.size := (Array.getElem?_eq_some_iff.1 ho).1
    have := hall j hlt
    rw [Array.getD_eq_getD_getElem?, Array.getElem?_eq_getElem (by omega)] at h1 this
    simp at h1 this
    rw [h1] at this
    cases this
  | succ fuel ih =>
    intro listed hsz hc hcl a w hs
    have hgd : ∀ k, k < ops.size → listed.getD k true = listed.getD k false := fun k hk => by
      rw [Array.getD_eq_getD_getElem?, Array.getD_eq_getD_getElem?, Array.getElem?_eq_getElem (by omega)]; rfl
    refine ⟨fun hnil => ?_, fun i hi => ?_⟩
    · exfalso
      have hex : ∀ k, k < ops.size → listed.getD k false = false → ∃ j, j ∈ Region.ready .any ops listed := by
        intro k
        induction k using Nat.strongRecOn with
        | _ k ihk =>
          intro hk hkf
          obtain ⟨o, ho⟩ : ∃ o, ops[k]? = some o := ⟨_, Array.getElem?_eq_getElem hk⟩
          by_cases hd : ∀ e ∈ o.after, Region.binds .any e = true → listed.getD e.on false = true
          · exact ⟨k, mem_ready.2 ⟨by rw [hgd k hk]; exact hkf, o, ho, hd⟩⟩
          · obtain ⟨e, he, hb, hn⟩ : ∃ e, e ∈ o.after ∧ Region.binds .any e = true ∧ ¬ listed.getD e.on false = true := by
              refine Classical.byContradiction fun hne => hd fun e he hb => Classical.byContradiction fun hn => hne ⟨e, he, hb, hn⟩
            have hlt := up_spec hp.up ho e he hb
            exact ihk e.on hlt (by omega) (by simpa using hn)
      obtain ⟨k, hk, hkf⟩ := cnt_pos ops.size (by rw [hc]; omega)
      obtain ⟨j, hj⟩ := hex k hk hkf
      rw [hnil] at hj
      cases hj
    · obtain ⟨h1, o, ho, hdep⟩ := mem_ready.1 hi
      have hlt : i < ops.size := (Array.getElem?_eq_some_iff.1 ho).1
      have hpi : listed.getD i false = false := by rw [← hgd i hlt]; exact h1
      have hget : ∀ k, k < ops.size → ∃ ok, ops[k]? = some ok := fun k hk => ⟨_, Array.getElem?_eq_getElem hk⟩
      -- who is bound before i is listed; who is bound behind i is not
      have hbef : ∀ k, bfB ops ops.size k i = true → listed.getD k false = true := fun k hb => bf_closed hcl _ k i o ho hdep hb
      have haft : ∀ k, k < ops.size → bfB ops ops.size i k = true → listed.getD k false = false := fun k hk hb => by
        cases hpk : listed.getD k false with
        | false => rfl
        | true =>
          obtain ⟨ok, hok⟩ := hget k hk
          have := bf_closed hcl _ i k ok hok (hcl k ok hok hpk) hb
          rw [hpi] at this
          cases this
      have hq : ∀ k, (listed.setIfInBounds i true).getD k false = (listed.getD k false || k == i) := by
        intro k
        by_cases hki : k = i
        · subst hki
          rw [Array.getD_eq_getD_getElem?, Array.getElem?_setIfInBounds_self_of_lt (by omega)]
          simp
        · rw [getD_set_ne false (Ne.symm hki)]
          have : (k == i) = false := by simpa using hki
          rw [this, Bool.or_false]
      have hpre := ovs_pre (pl := pl) (σ := σ) (i := i) ops.size (by omega)
      have hok : (pl i).okG ops o (ovs pl (fun _ => true) σ i) (ovs pl (fun k => listed.getD k false) σ ops.size) := by
        rw [← hpre]
        refine ⟨fun t ht => ?_, fun m hm => ?_, fun m hm => ?_⟩
        · refine ovs_t ops.size (fun k hk hw => ?_)
          rcases Nat.lt_trichotomy k i with h | h | h
          · obtain ⟨ok, hok⟩ := hget k hk
            rw [decide_eq_true h]
            rcases (hp.sep k i ok o h hok ho).2.2 with hb | ⟨hb, _⟩
            · exact hbef k hb
            · exact absurd ht (half_t hb (wT_sk hw)).1
          · subst h; simp [hpi]
          · obtain ⟨ok, hok⟩ := hget k hk
            rw [decide_eq_false (by omega)]
            rcases (hp.sep i k o ok h ho hok).2.2 with hb | ⟨_, hb, _⟩
            · exact haft k hk hb
            · exact absurd ht (half_t hb (wT_sk hw)).1
        · refine ovs_n ops.size (fun k hk hw => ?_)
          rcases Nat.lt_trichotomy k i with h | h | h
          · obtain ⟨ok, hok⟩ := hget k hk
            rw [decide_eq_true h]
            rcases (hp.sep k i ok o h hok ho).2.2 with hb | ⟨hb, _⟩
            · exact hbef k hb
            · exact absurd hm (half_n hb (wN_sk hw)).2
          · subst h; simp [hpi]
          · obtain ⟨ok, hok⟩ := hget k hk
            rw [decide_eq_false (by omega)]
            rcases (hp.sep i k o ok h ho hok).2.2 with hb | ⟨_, hb, _⟩
            · exact haft k hk hb
            · exact absurd hm (half_n hb (wN_sk hw)).2
        · have hf := hp.fr i hlt m hm
          have hno : ∀ k, k < ops.size → listed.getD k false = true → (wN (pl k) m = false ∧ (match (pl k).tw with | some (_, v) => v.says m | none => false) = false) := by
            intro k hk hpk
            have hki : k ≠ i := fun e => by rw [e, hpi] at hpk; cases hpk
            obtain ⟨ok, hok⟩ := hget k hk
            have h2 : disj (pl i).sk.fr (pl k).sk.nw = true ∧ disj (pl i).sk.fr (pl k).sk.sy = true := by
              rcases Nat.lt_or_gt_of_ne hki with h | h
              · have := hp.sep k i ok o h hok ho
                exact ⟨this.1, this.2.1⟩
              · rcases (hp.sep i k o ok h ho hok).2.2 with hb | ⟨_, _, hb1, hb2⟩
                · rw [haft k hk hb] at hpk; cases hpk
                · exact ⟨hb1, hb2⟩
            constructor
            · cases hw : wN (pl k) m with
              | false => rfl
              | true => exact (disj_spec h2.1 hm (wN_sk hw)).elim
            · cases hv : (pl k).tw with
              | none => rfl
              | some x =>
                obtain ⟨d, v⟩ := x
                refine AV.says_names v m ?_
                cases hcn : v.names.contains m with
                | false => rfl
                | true =>
                  refine (disj_spec h2.2 hm ?_).elim
                  unfold Eff.sk
                  simp only [hv]
                  simpa using hcn
          constructor
          · have : (ovs pl (fun k => listed.getD k false) σ ops.size).n m = (ovs pl (fun _ => false) σ ops.size).n m := ovs_n ops.size (fun k hk hw => by
              cases hpk : listed.getD k false with
              | false => rfl
              | true => rw [(hno k hk hpk).1] at hw; cases hw)
            rw [this]
            have h0 : ∀ n, ovs pl (fun _ => false) σ n = σ := by
              intro n
              induction n with
              | zero => rfl
              | succ n ihn => simp only [ovs, Bool.false_eq_true, if_false, ihn]
            rw [h0]
            exact hf.1
          · intro t
            have : ∀ n, n ≤ ops.size → ((ovs pl (fun k => listed.getD k false) σ n).t t).says m = false := by
              intro n
              induction n with
              | zero => intro _; exact hf.2 t
              | succ n ihn =>
                intro hn
                simp only [ovs]
                split
                · rename_i hpn
                  have h3 := (hno n (by omega) hpn).2
                  unfold Eff.ap
                  simp only
                  cases hv : (pl n).tw with
                  | none => exact ihn (by omega)
                  | some x =>
                    obtain ⟨d, v⟩ := x
                    rw [hv] at h3
                    simp only at h3 ⊢
                    cases hb : Nat.beq d t with
                    | true => simpa using h3
                    | false => simpa using ihn (by omega)
                · exact ihn (by omega)
            exact this _ (Nat.le_refl _)
      refine opG_run ho (hp.op i o ho) hok hs (fun a' w' hs' => ?_)
      have hins := ovs_ins (pl := pl) (σ := σ) (p := fun k => listed.getD k false) (q := fun k => (listed.setIfInBounds i true).getD k false) hlt hpi hq
        (fun k t h1 h2 h3 h4 => by
          obtain ⟨ok, hok⟩ := hget k h2
          rcases (hp.sep i k o ok h1 ho hok).2.2 with hb | ⟨hb, _⟩
          · have := haft k h2 hb
            exact absurd (h3.symm.trans this) (by decide)
          · cases hw : wT (pl k) t with
            | false => rfl
            | true => exact absurd (wT_sk hw) (half_t hb (wT_sk h4)).2)
        (fun k m h1 h2 h3 h4 => by
          obtain ⟨ok, hok⟩ := hget k h2
          rcases (hp.sep i k o ok h1 ho hok).2.2 with hb | ⟨hb, _⟩
          · have := haft k h2 hb
            exact absurd (h3.symm.trans this) (by decide)
          · cases hw : wN (pl k) m with
            | false => rfl
            | true => exact absurd (wN_sk hw) (half_n hb (wN_sk h4)).1)
      refine ih _ (by simpa using hsz) ?_ ?_ a' w' (by rw [hins]; exact hs')
      · have := cnt_ins (p := fun k => listed.getD k false) (q := fun k => (listed.setIfInBounds i true).getD k false) hpi hq ops.size hlt
        omega
      · intro j oj hoj hj e he hb
        simp only [hq] at hj ⊢
        simp only [Bool.or_eq_true, beq_iff_eq] at hj ⊢
        rcases hj with hj | hj
        · exact .inl (hcl j oj hoj hj e he hb)
        · subst hj
          rw [ho] at hoj
          injection hoj with hoj
          subst hoj
          exact .inl (hdep e he hb)
end
end Go.Proofs.Yteplcjhnmmpicaa.Av
