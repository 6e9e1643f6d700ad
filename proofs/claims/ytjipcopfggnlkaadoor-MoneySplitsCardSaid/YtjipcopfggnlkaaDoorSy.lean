/- The parts of a division: their sum, their bounds, their order: plain mathematics. No condition. -/
import Derived.Test.YtjipcopfggnlkaaDoorRx
set_option linter.unusedSimpArgs false
set_option linter.unusedVariables false
namespace Go.Proofs.YtjipcopfggnlkaaDoor.Mt
open Go
theorem su_set {l : List Int} {i : Nat} (v : Int) (hi : i < l.length) : ∀ k, k ≤ l.length → su (l.set i v) k = su l k + if i < k then v - iat l i else 0 := by
  intro k
  induction k with
  | zero => intro _; simp [su]
  | succ k ih =>
    intro hk
    rw [su, su, ih (by omega), iat_set hi]
    by_cases h : i = k
    · subst h
      rw [if_pos rfl, if_neg (by omega), if_pos (by omega)]
      omega
    · rw [if_neg h]
      by_cases h2 : i < k
      · rw [if_pos h2, if_pos (by omega)]; omega
      · rw [if_neg h2, if_neg (by omega)]; omega
theorem su_map (f : Nat → Nat) (n : Nat) : ∀ k, k ≤ n → su ((List.range n).map (fun i => ((f i : Nat) : Int))) k = ((sm f k : Nat) : Int) := by
  intro k
  induction k with
  | zero => intro _; rfl
  | succ k ih =>
    intro hk
    rw [su, sm, ih (by omega)]
    have e : iat ((List.range n).map (fun i => ((f i : Nat) : Int))) k = ((f k : Nat) : Int) := by
      unfold iat
      rw [List.getD_eq_getElem?_getD, List.getElem?_map, List.getElem?_range (by omega)]
      rfl
    rw [e]
    omega
theorem bump_sum {rf qf : Nat → Nat} {n : Nat} {o : List Nat} (h : OrdOk rf n o) : ∀ k, k ≤ n → su (bump qf n o k) n = ((sm qf n : Nat) : Int) + k := by
  intro k
  induction k with
  | zero => intro _; rw [bump_zero, su_map _ _ _ (Nat.le_refl _)]; simp
  | succ k ih =>
    intro hk
    have hlen := h.len
    have hok : o[k]'(by omega) < n := h.mem.1 (List.getElem_mem (by omega))
    rw [bump_step h (by omega), su_set _ (by rw [bump_len]; exact hok) n (by rw [bump_len]; exact Nat.le_refl _), ih (by omega), if_pos hok]
    omega
theorem sum_sm (f : Nat → Nat) : ∀ n, ((List.range n).map f).sum = sm f n := by
  intro n
  induction n with
  | zero => rfl
  | succ n ih => rw [List.range_succ, List.map_append, List.sum_append, ih, sm]; simp
theorem nat_perm {a b : List Nat} (h : a.Perm b) : a.sum = b.sum := by
  induction h with
  | nil => rfl
  | cons x _ ih => rw [List.sum_cons, List.sum_cons, ih]
  | swap x y l => rw [List.sum_cons, List.sum_cons, List.sum_cons, List.sum_cons]; omega
  | trans _ _ i1 i2 => exact i1.trans i2
theorem OrdOk.sum {rf : Nat → Nat} {n : Nat} {o : List Nat} (h : OrdOk rf n o) : (o.map rf).sum = sm rf n := by
  rw [nat_perm (h.perm.map rf), sum_sm]
theorem sum_le_mul {f : Nat → Nat} {S : Nat} : ∀ l : List Nat, (∀ x ∈ l, f x ≤ S) → (l.map f).sum ≤ S * l.length := by
  intro l
  induction l with
  | nil => intro _; simp
  | cons x l ih =>
    intro h
    have h1 := h x (by simp)
    have h2 := ih (fun y hy => h y (by simp [hy]))
    rw [List.map_cons, List.sum_cons, List.length_cons, Nat.mul_succ]
    omega
theorem sum_zero {f : Nat → Nat} : ∀ l : List Nat, (∀ x ∈ l, f x = 0) → (l.map f).sum = 0 := by
  intro l h
  have := sum_le_mul (f := f) (S := 0) l (fun x hx => Nat.le_of_eq (h x hx))
  omega
/-- who comes earlier has one more, where a later one has -/
theorem OrdOk.before {rf : Nat → Nat} {n : Nat} {o : List Nat} (h : OrdOk rf n o) {a b L : Nat} (ha : a < n) (hr : rlt rf a b) (hb : b ∈ o.take L) : a ∈ o.take L := by
  obtain ⟨y, hy, ey⟩ := List.getElem_of_mem hb
  obtain ⟨x, hx, ex⟩ := List.getElem_of_mem (h.mem.2 ha)
  rw [List.length_take] at hy
  rw [List.getElem_take] at ey
  have hxy : x < y := by
    rcases Nat.lt_trichotomy x y with h1 | h1 | h1
    · exact h1
    · subst h1
      rw [ex] at ey
      subst ey
      unfold rlt at hr
      omega
    · have := List.pairwise_iff_getElem.1 h.sorted y x (by omega) hx h1
      rw [ex, ey] at this
      unfold rlt at this hr
      omega
  have : (o.take L)[x]'(by rw [List.length_take]; omega) = a := by rw [List.getElem_take]; exact ex
  rw [← this]
  exact List.getElem_mem _
/-- one more goes to a part with a rest alone -/
theorem OrdOk.some {rf : Nat → Nat} {n : Nat} {o : List Nat} (h : OrdOk rf n o) {S L : Nat} (hS : 0 < S) (hlt : ∀ i, i < n → rf i < S) (hs : sm rf n = S * L) {i : Nat} (hi : i ∈ o.take L) : 0 < rf i := by
  rcases Nat.eq_zero_or_pos (rf i) with h0 | h0
  · exfalso
    obtain ⟨y, hy, ey⟩ := List.getElem_of_mem hi
    rw [List.length_take] at hy
    rw [List.getElem_take] at ey
    have e : (o.map rf).sum = ((o.take y).map rf).sum + ((o.drop y).map rf).sum := by
      conv => lhs; rw [← List.take_append_drop y o]
      rw [List.map_append, List.sum_append]
    have h1 : ((o.drop y).map rf).sum = 0 := by
      refine sum_zero _ fun x hx => ?_
      obtain ⟨j, hj, ej⟩ := List.getElem_of_mem hx
      rw [List.length_drop] at hj
      rw [List.getElem_drop] at ej
      rcases Nat.eq_zero_or_pos j with hj0 | hj0
      · subst hj0
        simp only [Nat.add_zero] at ej
        rw [← ej, ey, h0]
      · have := List.pairwise_iff_getElem.1 h.sorted y (y + j) (by omega) (by omega) (by omega)
        rw [ej, ey] at this
        unfold rlt at this
        omega
    have h2 : ((o.take y).map rf).sum ≤ S * (o.take y).length := sum_le_mul _ fun x hx => Nat.le_of_lt (hlt x (h.mem.1 (List.mem_of_mem_take hx)))
    rw [List.length_take, show min y o.length = y by omega] at h2
    rw [h.sum, hs, h1] at e
    have h3 : S * (y + 1) ≤ S * L := Nat.mul_le_mul_left S (by omega)
    rw [Nat.mul_succ] at h3
    omega
  · exact h0
section
variable {T : Int} {ws : List Int} {t S : Nat} {o : List Nat}
theorem SpOk.lt (h : SpOk T ws t S) (i : Nat) : rf t S ws i < S := Nat.mod_lt _ h.pos
theorem SpOk.w_le (h : SpOk T ws t S) {i : Nat} (hi : i < ws.length) : wn ws i ≤ S := by
  rw [h.ss]
  exact Nat.le_trans (Nat.le_add_left _ _) (sm_le (wn ws) (show i + 1 ≤ ws.length by omega))
theorem SpOk.w_eq (h : SpOk T ws t S) {i : Nat} (hi : i < ws.length) : iat ws i = ((wn ws i : Nat) : Int) := by
  have := h.ok.pos i hi
  unfold wn
  omega
theorem SpOk.sum (h : SpOk T ws t S) (ho : OrdOk (rf t S ws) ws.length o) : su (bump (qf t S ws) ws.length o (t - sm (qf t S ws) ws.length)) ws.length = T := by
  rw [bump_sum ho _ h.left_le, h.tt]
  have := h.q_le (Nat.le_refl ws.length)
  omega
/-- the two roundings of a share -/
theorem SpOk.ra (h : SpOk T ws t S) {i : Nat} (hi : i < ws.length) :
    (raE T (iat ws i) (S : Int) 1 = 0 ∧ raV T (iat ws i) (S : Int) 1 = ((qf t S ws i : Nat) : Int)) ∧ (raE T (iat ws i) (S : Int) 2 = 0 ∧ raV T (iat ws i) (S : Int) 2 = ((qf t S ws i : Nat) : Int) + if 0 < rf t S ws i then 1 else 0) := by
  have hp := h.pos
  have hwl := h.w_le hi
  have hf : fitB T = true := (fit_iff T).2 (by have := h.tt; have := h.fit; omega)
  have hd : (S : Int) ≠ 0 := by omega
  have e1 : T.natAbs * (iat ws i).natAbs = t * wn ws i := by
    rw [h.tt, h.w_eq hi, Int.natAbs_natCast, Int.natAbs_natCast]
  have e2 : ((S : Int)).natAbs = S := Int.natAbs_natCast S
  have q1 : raQ T (iat ws i) (S : Int) 1 = qf t S ws i := by rw [raQ_one, e1, e2]; rfl
  have q2 : raQ T (iat ws i) (S : Int) 2 = qf t S ws i + if 0 < rf t S ws i then 1 else 0 := by
    unfold raQ
    rw [e1, e2]
    show qf t S ws i + _ = _
    congr 1
    unfold awB
    rw [if_pos rfl]
    show (if decide (0 < rf t S ws i) = true then 1 else 0) = _
    simp
  have hne : neB T (iat ws i) (S : Int) = false := by
    unfold neB
    rw [decide_eq_false (show ¬ T < 0 by have := h.tt; omega), decide_eq_false (show ¬ iat ws i < 0 by have := h.ok.pos i hi; omega), decide_eq_false (show ¬ (S : Int) < 0 by omega)]
    rfl
  have hdm := Nat.div_add_mod (t * wn ws i) S
  have hle : t * wn ws i ≤ S * t := by rw [Nat.mul_comm S t]; exact Nat.mul_le_mul_left t hwl
  have b1 : qf t S ws i ≤ t := by
    have : S * qf t S ws i ≤ S * t := by unfold qf; omega
    exact Nat.le_of_mul_le_mul_left this hp
  have b2 : (qf t S ws i + if 0 < rf t S ws i then 1 else 0) ≤ t := by
    by_cases h0 : 0 < rf t S ws i
    · rw [if_pos h0]
      have : S * qf t S ws i < S * t := by unfold qf rf at *; omega
      exact Nat.lt_of_mul_lt_mul_left this
    · rw [if_neg h0]; exact b1
  have hfit := h.fit
  obtain ⟨c1, c2⟩ := ra_ok (num := iat ws i) hf (m_ok (.inl rfl)) hd (by rw [q1]; omega)
  obtain ⟨c3, c4⟩ := ra_ok (num := iat ws i) hf (m_ok (.inr (.inl rfl))) hd (by rw [q2]; omega)
  refine ⟨⟨c1, ?_⟩, c3, ?_⟩
  · rw [c2, hne, q1]; rfl
  · rw [c4, hne, q2]
    simp only [Bool.false_eq_true, if_false]
    split <;> simp
/-- a share lies between its roundings -/
theorem SpOk.mid (h : SpOk T ws t S) (ho : OrdOk (rf t S ws) ws.length o) {i : Nat} (hi : i < ws.length) :
    ((qf t S ws i : Nat) : Int) ≤ iat (bump (qf t S ws) ws.length o (t - sm (qf t S ws) ws.length)) i ∧ iat (bump (qf t S ws) ws.length o (t - sm (qf t S ws) ws.length)) i ≤ ((qf t S ws i : Nat) : Int) + if 0 < rf t S ws i then 1 else 0 := by
  rw [bump_at _ _ _ _ hi]
  by_cases hm : i ∈ o.take (t - sm (qf t S ws) ws.length)
  · rw [if_pos hm, if_pos (ho.some h.pos (fun i _ => h.lt i) h.left hm)]
    omega
  · rw [if_neg hm]
    split <;> omega
/-- shares lie as the weights do -/
theorem SpOk.ord (h : SpOk T ws t S) (ho : OrdOk (rf t S ws) ws.length o) {i k : Nat} (hi : i < ws.length) (hk : k < i) :
    (iat ws i ≤ iat ws k → iat (bump (qf t S ws) ws.length o (t - sm (qf t S ws) ws.length)) i ≤ iat (bump (qf t S ws) ws.length o (t - sm (qf t S ws) ws.length)) k) ∧
    (iat ws k < iat ws i → iat (bump (qf t S ws) ws.length o (t - sm (qf t S ws) ws.length)) k ≤ iat (bump (qf t S ws) ws.length o (t - sm (qf t S ws) ws.length)) i) := by
  have hk' : k < ws.length := by omega
  obtain ⟨L, hL⟩ : ∃ L, t - sm (qf t S ws) ws.length = L := ⟨_, rfl⟩
  have hleft := h.left
  rw [hL] at hleft ⊢
  rw [bump_at _ _ _ _ hi, bump_at _ _ _ _ hk', h.w_eq hi, h.w_eq hk']
  have di := Nat.div_add_mod (t * wn ws i) S
  have dk := Nat.div_add_mod (t * wn ws k) S
  have ri := h.lt i
  have rk := h.lt k
  change S * qf t S ws i + rf t S ws i = t * wn ws i at di
  change S * qf t S ws k + rf t S ws k = t * wn ws k at dk
  have hp := h.pos
  constructor
  · intro hw
    have hm : t * wn ws i ≤ t * wn ws k := Nat.mul_le_mul_left t (by omega)
    rcases Nat.lt_trichotomy (qf t S ws i) (qf t S ws k) with hq | hq | hq
    · split <;> split <;> omega
    · by_cases hin : i ∈ o.take L
      · have : k ∈ o.take L := ho.before hk' (by
          unfold rlt
          rw [hq] at di
          omega) hin
        rw [if_pos hin, if_pos this]
        omega
      · rw [if_neg hin]
        split <;> omega
    · exfalso
      have : S * (qf t S ws k + 1) ≤ S * qf t S ws i := Nat.mul_le_mul_left S (by omega)
      rw [Nat.mul_succ] at this
      omega
  · intro hw
    have hm : t * wn ws k ≤ t * wn ws i := Nat.mul_le_mul_left t (by omega)
    rcases Nat.lt_trichotomy (qf t S ws k) (qf t S ws i) with hq | hq | hq
    · split <;> split <;> omega
    · by_cases hkn : k ∈ o.take L
      · have hin : i ∈ o.take L := by
          refine ho.before hi ?_ hkn
          unfold rlt
          left
          rcases Nat.lt_or_ge (rf t S ws k) (rf t S ws i) with h1 | h1
          · exact h1
          · exfalso
            rw [hq] at dk
            have heq : t * wn ws k = t * wn ws i := by omega
            rcases Nat.eq_zero_or_pos t with h0 | h0
            · have : 0 < rf t S ws k := ho.some hp (fun i _ => h.lt i) hleft hkn
              rw [h0, Nat.zero_mul] at dk
              subst h0
              omega
            · have := Nat.eq_of_mul_eq_mul_left h0 heq
              omega
        rw [if_pos hin, if_pos hkn]
        omega
      · rw [if_neg hkn]
        split <;> omega
    · exfalso
      have : S * (qf t S ws i + 1) ≤ S * qf t S ws k := Nat.mul_le_mul_left S (by omega)
      rw [Nat.mul_succ] at this
      omega
end
end Go.Proofs.YtjipcopfggnlkaaDoor.Mt
