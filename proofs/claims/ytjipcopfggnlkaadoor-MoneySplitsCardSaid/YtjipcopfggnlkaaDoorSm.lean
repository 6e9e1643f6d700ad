/- Divisions of an amount: plain mathematics. No condition. -/
import Derived.Test.YtjipcopfggnlkaaDoorPc
set_option linter.unusedSimpArgs false
set_option linter.unusedVariables false
namespace Go.Proofs.YtjipcopfggnlkaaDoor.Mt
open Go
/-- the rests' order: the greater first, then the earlier place -/
def rlt (rf : Nat → Nat) (i j : Nat) : Prop := rf j < rf i ∨ (rf i = rf j ∧ i < j)
structure OrdOk (rf : Nat → Nat) (n : Nat) (o : List Nat) : Prop where
  perm : o.Perm (List.range n)
  sorted : o.Pairwise (rlt rf)
theorem OrdOk.len {rf : Nat → Nat} {n : Nat} {o : List Nat} (h : OrdOk rf n o) : o.length = n := by rw [h.perm.length_eq, List.length_range]
theorem OrdOk.mem {rf : Nat → Nat} {n : Nat} {o : List Nat} (h : OrdOk rf n o) {i : Nat} : i ∈ o ↔ i < n := by rw [h.perm.mem_iff, List.mem_range]
theorem OrdOk.nodup {rf : Nat → Nat} {n : Nat} {o : List Nat} (h : OrdOk rf n o) : o.Nodup := h.perm.nodup_iff.2 List.nodup_range
theorem OrdOk.uniq {rf : Nat → Nat} {n : Nat} {a b : List Nat} (ha : OrdOk rf n a) (hb : OrdOk rf n b) : a = b :=
  List.Perm.eq_of_pairwise (le := rlt rf) (fun x y _ _ h1 h2 => by unfold rlt at h1 h2; omega) ha.sorted hb.sorted (ha.perm.trans hb.perm.symm)
theorem OrdOk.congr {rf rg : Nat → Nat} {n : Nat} {o : List Nat} (h : OrdOk rf n o) (he : ∀ i, i < n → rf i = rg i) : OrdOk rg n o :=
  ⟨h.perm, by
    refine List.Pairwise.imp_of_mem ?_ h.sorted
    intro a b ha hb hab
    have h1 := he a (h.mem.1 ha)
    have h2 := he b (h.mem.1 hb)
    unfold rlt at hab ⊢
    omega⟩
/-- the parts, when the first k in order got one more -/
def bump (qf : Nat → Nat) (n : Nat) (o : List Nat) (k : Nat) : List Int := (List.range n).map (fun i => ((qf i : Nat) : Int) + if i ∈ o.take k then 1 else 0)
theorem bump_len (qf : Nat → Nat) (n : Nat) (o : List Nat) (k : Nat) : (bump qf n o k).length = n := by simp [bump]
theorem bump_at (qf : Nat → Nat) (n : Nat) (o : List Nat) (k : Nat) {i : Nat} (h : i < n) : iat (bump qf n o k) i = ((qf i : Nat) : Int) + if i ∈ o.take k then 1 else 0 := by
  unfold iat bump
  rw [List.getD_eq_getElem?_getD, List.getElem?_map, List.getElem?_range h]
  rfl
theorem list_ext_iat {a b : List Int} (hl : a.length = b.length) (h : ∀ i, i < a.length → iat a i = iat b i) : a = b := by
  apply List.ext_getElem hl
  intro i h1 h2
  have := h i h1
  unfold iat at this
  rw [List.getD_eq_getElem?_getD, List.getD_eq_getElem?_getD, List.getElem?_eq_getElem h1, List.getElem?_eq_getElem h2] at this
  exact this
theorem iat_set {l : List Int} {i j : Nat} {v : Int} (h : i < l.length) : iat (l.set i v) j = if i = j then v else iat l j := by
  by_cases hij : i = j
  · subst hij; rw [if_pos rfl]; simp [iat, h]
  · rw [if_neg hij]; simp [iat, List.getElem?_set_ne hij]
theorem bump_step {rf qf : Nat → Nat} {n : Nat} {o : List Nat} (h : OrdOk rf n o) {k : Nat} (hk : k < o.length) : bump qf n o (k + 1) = (bump qf n o k).set o[k] (iat (bump qf n o k) o[k] + 1) := by
  have hok : o[k] < n := h.mem.1 (List.getElem_mem hk)
  have hnot : o[k] ∉ o.take k := by
    intro hm
    obtain ⟨j, hj, e⟩ := List.getElem_of_mem hm
    rw [List.length_take] at hj
    rw [List.getElem_take] at e
    exact (List.pairwise_iff_getElem.1 h.nodup) j k (by omega) hk (by omega) e
  apply list_ext_iat
  · rw [List.length_set, bump_len, bump_len]
  · intro i hi
    rw [bump_len] at hi
    rw [iat_set (by rw [bump_len]; exact hok), bump_at _ _ _ _ hi, bump_at _ _ _ _ hi, bump_at _ _ _ _ hok, if_neg hnot, List.take_succ_eq_append_getElem hk]
    by_cases hik : o[k] = i
    · subst hik
      rw [if_pos rfl, if_pos (List.mem_append.2 (.inr (List.mem_singleton.2 rfl)))]
      omega
    · rw [if_neg hik]
      by_cases hm : i ∈ o.take k
      · rw [if_pos hm, if_pos (List.mem_append.2 (.inl hm))]
      · rw [if_neg hm, if_neg (fun h9 => by
          rcases List.mem_append.1 h9 with h8 | h8
          · exact hm h8
          · exact hik (List.mem_singleton.1 h8).symm)]
theorem bump_zero (qf : Nat → Nat) (n : Nat) (o : List Nat) : bump qf n o 0 = (List.range n).map (fun i => ((qf i : Nat) : Int)) := by simp [bump]
/-- sums over places -/
def sm (f : Nat → Nat) : Nat → Nat
  | 0 => 0
  | k + 1 => sm f k + f k
theorem sm_mono {f g : Nat → Nat} : ∀ k, (∀ i, i < k → f i ≤ g i) → sm f k ≤ sm g k := by
  intro k
  induction k with
  | zero => intro _; exact Nat.le_refl _
  | succ k ih => intro h; exact Nat.add_le_add (ih (fun i hi => h i (by omega))) (h k (by omega))
theorem sm_congr {f g : Nat → Nat} : ∀ k, (∀ i, i < k → f i = g i) → sm f k = sm g k := by
  intro k
  induction k with
  | zero => intro _; rfl
  | succ k ih => intro h; rw [sm, sm, ih (fun i hi => h i (by omega)), h k (by omega)]
theorem sm_le (f : Nat → Nat) {i k : Nat} (h : i ≤ k) : sm f i ≤ sm f k := by
  induction k with
  | zero => have : i = 0 := by omega
            subst this; exact Nat.le_refl _
  | succ k ih =>
    rcases Nat.lt_or_ge i (k + 1) with h1 | h1
    · exact Nat.le_trans (ih (by omega)) (Nat.le_add_right _ _)
    · have : i = k + 1 := by omega
      subst this; exact Nat.le_refl _
/-- the weights as natural numbers; quotients; rests -/
def wn (ws : List Int) (i : Nat) : Nat := (iat ws i).toNat
def qf (T S : Nat) (ws : List Int) (i : Nat) : Nat := T * wn ws i / S
def rf (T S : Nat) (ws : List Int) (i : Nat) : Nat := T * wn ws i % S
theorem sm_split (T S : Nat) (ws : List Int) : ∀ k, S * sm (qf T S ws) k + sm (rf T S ws) k = T * sm (wn ws) k := by
  intro k
  induction k with
  | zero => simp [sm]
  | succ k ih =>
    have h := Nat.div_add_mod (T * wn ws k) S
    simp only [sm, Nat.mul_add]
    unfold qf rf at *
    omega
theorem su_wn {ws : List Int} : ∀ k, (∀ i, i < k → 0 ≤ iat ws i) → su ws k = ((sm (wn ws) k : Nat) : Int) := by
  intro k
  induction k with
  | zero => intro _; rfl
  | succ k ih =>
    intro h
    have h1 := ih (fun i hi => h i (by omega))
    have h2 := h k (by omega)
    rw [su, sm, h1]
    unfold wn
    omega
/-- are the weights as they should be? -/
def wOk (ws : List Int) : Prop := ∀ i, i < ws.length → 0 ≤ iat ws i ∧ iat ws i ≤ 1125899906842624 - su ws i
open Classical in
noncomputable def spE (T : Int) (ws : List Int) : Int :=
  if T < 0 ∨ fitB T = false then 13 else if 1024 < ws.length then 3 else if ¬ wOk ws then 1 else if su ws ws.length = 0 then 1 else 0
/-- all that holds of a division that is done -/
structure SpOk (T : Int) (ws : List Int) (t S : Nat) : Prop where
  tt : T = (t : Int)
  fit : t ≤ 1125899906842624
  len : ws.length ≤ 1024
  ok : wOk ws
  ss : S = sm (wn ws) ws.length
  pos : 0 < S
  sle : S ≤ 1125899906842624
theorem wOk.pos {ws : List Int} (h : wOk ws) : ∀ i, i < ws.length → 0 ≤ iat ws i := fun i hi => (h i hi).1
theorem spE_ok {T : Int} {ws : List Int} (h : spE T ws = 0) : ∃ t S, SpOk T ws t S := by
  unfold spE at h
  split at h
  · cases h
  · next h1 =>
    split at h
    · cases h
    · next h2 =>
      split at h
      · cases h
      · next h3 =>
        split at h
        · cases h
        · next h4 =>
          have hw : wOk ws := Classical.not_not.1 h3
          have hs := su_wn ws.length hw.pos
          have hf : fitB T = true := by
            rcases Wk.fot (fitB T) with h9 | h9
            · exact absurd (.inr h9) h1
            · exact h9
          have hf2 := (fit_iff T).1 hf
          have h0 : ¬ T < 0 := fun h9 => h1 (.inl h9)
          refine ⟨T.toNat, sm (wn ws) ws.length, by omega, by omega, by omega, hw, rfl, by omega, ?_⟩
          rcases Nat.eq_zero_or_pos ws.length with h9 | h9
          · rw [h9]; simp [sm]
          · have h10 := hw (ws.length - 1) (by omega)
            have e : su ws ws.length = su ws (ws.length - 1) + iat ws (ws.length - 1) := by
              conv => lhs; rw [show ws.length = (ws.length - 1) + 1 by omega]
              rfl
            omega
theorem SpOk.q_le {T : Int} {ws : List Int} {t S : Nat} (h : SpOk T ws t S) {k : Nat} (hk : k ≤ ws.length) : sm (qf t S ws) k ≤ t := by
  have h1 := sm_split t S ws k
  have h2 : sm (wn ws) k ≤ S := by rw [h.ss]; exact sm_le _ hk
  have h3 : S * sm (qf t S ws) k ≤ S * t := by rw [Nat.mul_comm S t]; exact Nat.le_trans (by omega) (Nat.mul_le_mul_left t h2)
  exact Nat.le_of_mul_le_mul_left h3 h.pos
/-- what is left is as many times the sum as the rests are -/
theorem SpOk.left {T : Int} {ws : List Int} {t S : Nat} (h : SpOk T ws t S) : sm (rf t S ws) ws.length = S * (t - sm (qf t S ws) ws.length) := by
  have h1 := sm_split t S ws ws.length
  rw [← h.ss] at h1
  have h2 := h.q_le (Nat.le_refl _)
  rw [Nat.mul_sub, Nat.mul_comm S t]
  omega
theorem SpOk.left_le {T : Int} {ws : List Int} {t S : Nat} (h : SpOk T ws t S) : t - sm (qf t S ws) ws.length ≤ ws.length := by
  have h1 := h.left
  have h2 : sm (rf t S ws) ws.length ≤ sm (fun _ => S) ws.length := sm_mono _ (fun i _ => Nat.le_of_lt (Nat.mod_lt _ h.pos))
  have h3 : ∀ k, sm (fun _ => S) k = S * k := by
    intro k
    induction k with
    | zero => rfl
    | succ k ih => rw [sm, ih, Nat.mul_succ]
  rw [h3, h1] at h2
  exact Nat.le_of_mul_le_mul_left h2 h.pos
end Go.Proofs.YtjipcopfggnlkaaDoor.Mt
