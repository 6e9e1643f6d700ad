/- The law of what arrives once. No condition. -/
import Derived.Test.YtijjnbabdlllkaaAl4
import Derived.Test.YtijjnbabdlllkaaB2
set_option linter.unusedSimpArgs false
set_option linter.unusedVariables false
namespace Go.Proofs.Ytijjnbabdlllkaa.Wk
open Go Go.RowKit Go.Proofs.Ytijjnbabdlllkaa.Av
theorem ix_appL {α : Type} [Inhabited α] {l m : List α} {q : Nat} (h : q < l.length) : ix (l ++ m) q = ix l q := by
  unfold ix
  rw [List.getD_eq_getElem?_getD, List.getD_eq_getElem?_getD, List.getElem?_append_left h]
theorem nb_ok : Nm.nmB (⟨#[110, 111, 114, 116, 104]⟩ : ByteArray) = true := by
  refine Nm.nmB_yes ⟨by decide, by decide, fun i hi => ?_⟩
  have hi : i < 5 := hi
  have key : ∀ j : Fin 5, (97 ≤ Nm.bt (⟨#[110, 111, 114, 116, 104]⟩ : ByteArray) j.val ∧ Nm.bt (⟨#[110, 111, 114, 116, 104]⟩ : ByteArray) j.val ≤ 122) := by decide
  exact .inl (key ⟨i, hi⟩)
noncomputable def pS (ls : List (List Rec)) : Nat → Ptn
  | 0 => ⟨(⟨#[110, 111, 114, 116, 104]⟩ : ByteArray), 1, 1, [], [], []⟩
  | k + 1 => sdP (pS ls k) (⟨#[115, 111, 117, 116, 104]⟩ : ByteArray) (ix ls k)
structure I1 (p : Ptn) (k : Nat) : Prop where
  out : p.out = (p.wait.length : Int) + 1
  wl : p.wait.length ≤ k
  ol : p.ours.length ≤ 20 * k
  tl : p.theirs.length = 0
  sq : ∀ i, i < p.wait.length → (ix p.wait i).seq = 1 + (i : Int)
  r : ∀ x ∈ p.wait, x.recs.length ≤ 20
theorem i1_0 (ls : List (List Rec)) : I1 (pS ls 0) 0 := ⟨rfl, Nat.le_refl _, Nat.le_refl _, rfl, fun i hi => absurd hi (Nat.not_lt_zero i), fun x hx => by cases hx⟩
theorem i1_step {p : Ptn} {k : Nat} {fr : ByteArray} {l : List Rec} (h : I1 p k) (hl : l.length ≤ 20) : I1 (sdP p fr l) (k + 1) := by
  have h0 : I1 p (k + 1) := ⟨h.out, by have := h.wl; omega, by have := h.ol; omega, h.tl, h.sq, h.r⟩
  cases hc : (ckF (f0 p fr l) != 0) with
  | true => rw [(sd_a hc).1]; exact h0
  | false =>
    cases h2 : tooB p l with
    | true => rw [(sd_b hc h2).1]; exact h0
    | false =>
      rw [(sd_c hc h2).1]
      refine ⟨?_, ?_, ?_, h.tl, fun i hi => ?_, fun x hx => ?_⟩
      · show p.out + 1 = ((p.wait ++ [f0 p fr l]).length : Int) + 1
        rw [List.length_append, h.out]; simp
      · show (p.wait ++ [f0 p fr l]).length ≤ k + 1
        rw [List.length_append]; have := h.wl; simp only [List.length_cons, List.length_nil]; omega
      · show (p.ours ++ l).length ≤ 20 * (k + 1)
        rw [List.length_append]; have := h.ol; omega
      · show (ix (p.wait ++ [f0 p fr l]) i).seq = 1 + (i : Int)
        have hi : i < (p.wait ++ [f0 p fr l]).length := hi
        rw [List.length_append, List.length_cons, List.length_nil] at hi
        by_cases hlt : i < p.wait.length
        · rw [ix_appL hlt]; exact h.sq i hlt
        · have e : i = p.wait.length := by omega
          subst e
          rw [ix_app (Nat.le_refl _), Nat.sub_self]
          show p.out = _
          rw [h.out]; omega
      · have hx : x ∈ p.wait ++ [f0 p fr l] := hx
        rcases List.mem_append.1 hx with h1 | h1
        · exact h.r x h1
        · rw [List.mem_singleton] at h1; rw [h1]; exact hl
theorem i1_ok {p : Ptn} {k : Nat} (h : I1 p k) (hk : k ≤ 10) : okP p := ⟨by have := h.ol; omega, by have := h.tl; omega, by have := h.wl; omega, fun x hx => by have := h.r x hx; omega⟩
structure I2 (p : Ptn) (m : Int) : Prop where
  m0 : 0 ≤ m
  out : p.out = (p.wait.length : Int) + 1 + m
  ob : p.out ≤ 11
  wl : p.wait.length ≤ 10
  ol : p.ours.length ≤ 200
  tl : p.theirs.length = 0
  sq : ∀ i, i < p.wait.length → (ix p.wait i).seq = (m + 1) + (i : Int)
  r : ∀ x ∈ p.wait, x.recs.length ≤ 20
theorem i2_of {p : Ptn} {k : Nat} (h : I1 p k) (hk : k ≤ 10) : I2 p 0 := ⟨Int.le_refl _, by rw [h.out]; omega, by have := h.out; have := h.wl; omega, by have := h.wl; omega, by have := h.ol; omega, h.tl, fun i hi => by rw [h.sq i hi]; omega, h.r⟩
theorem i2_ok {p : Ptn} {m : Int} (h : I2 p m) : okP p := ⟨by have := h.ol; omega, by have := h.tl; omega, by have := h.wl; omega, fun x hx => by have := h.r x hx; omega⟩
theorem flt_ap (n : Int) : ∀ (l : List Fil) (a : Int), (∀ i, i < l.length → (ix l i).seq = a + (i : Int)) → (l.filter fun x => !(pd n x)) = l.drop (n + 1 - a).toNat
  | [], a, _ => by simp
  | x :: l, a, h => by
    have h0 : x.seq = a := by have := h 0 (by simp); simpa [ix] using this
    have ht : ∀ i, i < l.length → (ix l i).seq = (a + 1) + (i : Int) := fun i hi => by
      have h1 := h (i + 1) (by simp; omega)
      have h2 : ix (x :: l) (i + 1) = ix l i := rfl
      rw [h2] at h1
      rw [h1]; omega
    have ih := flt_ap n l (a + 1) ht
    by_cases hn : a ≤ n
    · have hp : pd n x = true := decide_eq_true (by omega)
      rw [List.filter_cons_of_neg (by rw [hp]; simp), ih, show (n + 1 - a).toNat = (n + 1 - (a + 1)).toNat + 1 by omega, List.drop_succ_cons]
    · have hp : pd n x = false := decide_eq_false (by omega)
      rw [List.filter_cons_of_pos (by rw [hp]; rfl), ih, show (n + 1 - (a + 1)).toNat = 0 by omega, show (n + 1 - a).toNat = 0 by omega, List.drop_zero, List.drop_zero]
theorem dl_ap {n : Int} {l : List Fil} {a : Int} (h : ∀ i, i < l.length → (ix l i).seq = a + (i : Int)) : dlF n l l.length = l.drop (n + 1 - a).toNat := by
  unfold dlF
  rw [List.take_length]; exact flt_ap n l a h
theorem akE_b (p : Ptn) (n : Int) : (akE p n == 0) = (decide (0 ≤ n) && decide (n < p.out)) := by
  unfold akE
  by_cases h1 : n < 0
  · rw [decide_eq_true h1, decide_eq_false (show ¬ 0 ≤ n by omega)]; rfl
  · by_cases h2 : p.out ≤ n
    · rw [decide_eq_true h2, decide_eq_false (show ¬ n < p.out by omega), Bool.or_true, Bool.and_false]; rfl
    · rw [decide_eq_false h1, decide_eq_false h2, decide_eq_true (show 0 ≤ n by omega), decide_eq_true (show n < p.out by omega)]; rfl
theorem ak_31 {p : Ptn} {n : Int} (h : (akE p n != 0) = true) : (akE p n != 31) = false := by
  unfold akE at h ⊢
  cases hc : (decide (n < 0) || decide (p.out ≤ n)) with
  | true => rfl
  | false => rw [hc] at h; cases h
theorem ak_out (p : Ptn) (n : Int) : (akP p n).out = p.out := by unfold akP; cases (decide (n < 0) || decide (p.out ≤ n)) <;> rfl
theorem ak_ours (p : Ptn) (n : Int) : (akP p n).ours = p.ours := by unfold akP; cases (decide (n < 0) || decide (p.out ≤ n)) <;> rfl
theorem ak_cond {p : Ptn} {n : Int} (h : (akE p n == 0) = true) : 0 ≤ n ∧ n < p.out := by
  rw [akE_b] at h
  simpa using h
theorem ak_no {p : Ptn} {n : Int} (h : (akE p n == 0) = false) : akP p n = p := by
  unfold akE at h
  unfold akP
  cases hc : (decide (n < 0) || decide (p.out ≤ n)) with
  | true => rfl
  | false => rw [hc] at h; cases h
theorem i2_step {p : Ptn} {m n : Int} (h : I2 p m) (h1 : 0 ≤ n) (h2 : n < p.out) : I2 (akP p n) (max m n) := by
  have hc : (decide (n < 0) || decide (p.out ≤ n)) = false := by rw [decide_eq_false (show ¬ n < 0 by omega), decide_eq_false (show ¬ p.out ≤ n by omega)]; rfl
  rw [(ak_ok hc).1, dl_ap h.sq]
  have ho := h.out
  have hw := h.wl
  have hm := h.m0
  have hob := h.ob
  have hd : (n + 1 - (m + 1)).toNat ≤ p.wait.length := by omega
  refine ⟨by omega, ?_, hob, ?_, h.ol, h.tl, fun i hi => ?_, fun x hx => h.r x (List.mem_of_mem_drop hx)⟩
  · show p.out = ((p.wait.drop (n + 1 - (m + 1)).toNat).length : Int) + 1 + max m n
    rw [List.length_drop]; omega
  · show (p.wait.drop (n + 1 - (m + 1)).toNat).length ≤ 10
    rw [List.length_drop]; omega
  · show (ix (p.wait.drop (n + 1 - (m + 1)).toNat) i).seq = (max m n + 1) + (i : Int)
    have hi : i < (p.wait.drop (n + 1 - (m + 1)).toNat).length := hi
    rw [List.length_drop] at hi
    rw [ix_drop, h.sq _ (by omega)]; omega
noncomputable def qS (p : Ptn) (ns : List Int) : Nat → Ptn × Int
  | 0 => (p, 0)
  | k + 1 => (akP (qS p ns k).1 (ix ns k), bif akE (qS p ns k).1 (ix ns k) == 0 then max (qS p ns k).2 (ix ns k) else (qS p ns k).2)
theorem q_y {p : Ptn} {ns : List Int} {k : Nat} (h : (akE (qS p ns k).1 (ix ns k) == 0) = true) : (qS p ns (k + 1)).2 = max (qS p ns k).2 (ix ns k) := by simp only [qS, h, cond_true]
theorem q_n {p : Ptn} {ns : List Int} {k : Nat} (h : (akE (qS p ns k).1 (ix ns k) == 0) = false) : (qS p ns (k + 1)).2 = (qS p ns k).2 := by simp only [qS, h, cond_false]
theorem q_1 (p : Ptn) (ns : List Int) (k : Nat) : (qS p ns (k + 1)).1 = akP (qS p ns k).1 (ix ns k) := rfl
theorem q_step {p : Ptn} {ns : List Int} {k : Nat} (h : I2 (qS p ns k).1 (qS p ns k).2) : I2 (qS p ns (k + 1)).1 (qS p ns (k + 1)).2 := by
  rw [q_1]
  cases hc : (akE (qS p ns k).1 (ix ns k) == 0) with
  | true =>
    obtain ⟨h1, h2⟩ := ak_cond hc
    rw [q_y hc]; exact i2_step h h1 h2
  | false => rw [q_n hc, ak_no hc]; exact h
theorem rv_out (p : Ptn) (f : Fil) : (rvP p f).out = p.out := by
  unfold rvP
  cases (ckF f != 0) <;> cases (!(sEq f.fr p.name)) <;> cases (decide (p.inn < f.seq)) <;> cases (!(f.seq == p.inn)) <;> cases (decide (1024 < (p.theirs.length : Int) + (f.recs.length : Int))) <;> rfl
theorem rv_ours (p : Ptn) (f : Fil) : (rvP p f).ours = p.ours := by
  unfold rvP
  cases (ckF f != 0) <;> cases (!(sEq f.fr p.name)) <;> cases (decide (p.inn < f.seq)) <;> cases (!(f.seq == p.inn)) <;> cases (decide (1024 < (p.theirs.length : Int) + (f.recs.length : Int))) <;> rfl
theorem rv_wait (p : Ptn) (f : Fil) : (rvP p f).wait = p.wait := by
  unfold rvP
  cases (ckF f != 0) <;> cases (!(sEq f.fr p.name)) <;> cases (decide (p.inn < f.seq)) <;> cases (!(f.seq == p.inn)) <;> cases (decide (1024 < (p.theirs.length : Int) + (f.recs.length : Int))) <;> rfl
theorem last_e {p : Ptn} {m : Int} (h : I2 p m) : (akE p (p.out - 1) == 0) = true := by
  have := h.out
  have := h.m0
  rw [akE_b, decide_eq_true (show 0 ≤ p.out - 1 by omega), decide_eq_true (show p.out - 1 < p.out by omega)]; rfl
theorem last_w {p : Ptn} {m : Int} (h : I2 p m) : (((akP p (p.out - 1)).wait.length : Int) == 0) = true := by
  have ho := h.out
  have hm := h.m0
  obtain ⟨h1, h2⟩ := ak_cond (last_e h)
  have hn := i2_step h h1 h2
  have h3 := hn.out
  rw [ak_out] at h3
  rw [beq_iff_eq]; omega

structure I3 (p : Ptn) : Prop where
  ck : ∀ x ∈ p.wait, (ckF x != 0) = false
  fr : ∀ x ∈ p.wait, x.fr = (⟨#[115, 111, 117, 116, 104]⟩ : ByteArray)
  key : ∀ x ∈ p.wait, ∀ r ∈ x.recs, r.key.size ≤ 300
  ours : p.ours = p.wait.flatMap (fun x => x.recs)
theorem i3_0 (ls : List (List Rec)) : I3 (pS ls 0) := ⟨fun x hx => (by cases hx), fun x hx => (by cases hx), fun x hx => (by cases hx), rfl⟩
theorem i3_step {p : Ptn} {l : List Rec} (h : I3 p) (hk : ∀ r ∈ l, r.key.size ≤ 300) : I3 (sdP p (⟨#[115, 111, 117, 116, 104]⟩ : ByteArray) l) := by
  cases hc : (ckF (f0 p (⟨#[115, 111, 117, 116, 104]⟩ : ByteArray) l) != 0) with
  | true => rw [(sd_a hc).1]; exact h
  | false =>
    cases h2 : tooB p l with
    | true => rw [(sd_b hc h2).1]; exact h
    | false =>
      rw [(sd_c hc h2).1]
      have key : ∀ (P : Fil → Prop), (∀ x ∈ p.wait, P x) → P (f0 p (⟨#[115, 111, 117, 116, 104]⟩ : ByteArray) l) → ∀ x ∈ p.wait ++ [f0 p (⟨#[115, 111, 117, 116, 104]⟩ : ByteArray) l], P x := fun P h1 h2 x hx => by
        rcases List.mem_append.1 hx with h3 | h3
        · exact h1 x h3
        · rw [List.mem_singleton] at h3; rw [h3]; exact h2
      refine ⟨key (fun x => (ckF x != 0) = false) h.ck hc, key (fun x => x.fr = (⟨#[115, 111, 117, 116, 104]⟩ : ByteArray)) h.fr rfl, key (fun x => ∀ r ∈ x.recs, r.key.size ≤ 300) h.key hk, ?_⟩
      show p.ours ++ l = (p.wait ++ [f0 p (⟨#[115, 111, 117, 116, 104]⟩ : ByteArray) l]).flatMap (fun x => x.recs)
      rw [List.flatMap_append, ← h.ours]; simp [f0]
theorem sd_yes {p : Ptn} {fr : ByteArray} {l : List Rec} (h : (sdE p fr l == 0) = true) : (sdP p fr l).wait = p.wait ++ [sdF p fr l] := by
  cases hc : (ckF (f0 p fr l) != 0) with
  | true =>
    rw [(sd_a hc).2.2, beq_iff_eq] at h
    rw [h] at hc; cases hc
  | false =>
    cases h2 : tooB p l with
    | true => rw [(sd_b hc h2).2.2] at h; cases h
    | false => rw [(sd_c hc h2).1, (sd_c hc h2).2.1]
theorem sd_no {p : Ptn} {fr : ByteArray} {l : List Rec} (h : (sdE p fr l == 0) = false) : (sdP p fr l).wait = p.wait := by
  cases hc : (ckF (f0 p fr l) != 0) with
  | true => rw [(sd_a hc).1]
  | false =>
    cases h2 : tooB p l with
    | true => rw [(sd_b hc h2).1]
    | false => rw [(sd_c hc h2).2.2] at h; cases h
def bS (W : List Fil) (m : Nat) : Ptn := ⟨(⟨#[115, 111, 117, 116, 104]⟩ : ByteArray), 1, (m : Int) + 1, [], [], (W.take m).flatMap (fun x => x.recs)⟩
theorem flat_len {b : Nat} : ∀ (l : List Fil), (∀ x ∈ l, x.recs.length ≤ b) → (l.flatMap (fun x => x.recs)).length ≤ b * l.length
  | [], _ => by simp
  | x :: l, h => by
    have h1 := h x (by simp)
    have h2 := flat_len l (fun y hy => h y (by simp [hy]))
    rw [List.flatMap_cons, List.length_append, List.length_cons, Nat.mul_succ]; omega
theorem bs_len {W : List Fil} (m : Nat) (h : ∀ x ∈ W, x.recs.length ≤ 20) (hw : W.length ≤ 10) : ((W.take m).flatMap (fun x => x.recs)).length ≤ 200 := by
  have h1 := flat_len (W.take m) (fun x hx => h x (List.mem_of_mem_take hx))
  have h2 : (W.take m).length ≤ W.length := by rw [List.length_take]; omega
  omega
theorem bs_ok {W : List Fil} (m : Nat) (h : ∀ x ∈ W, x.recs.length ≤ 20) (hw : W.length ≤ 10) : okP (bS W m) := ⟨by show (0 : Nat) ≤ _; omega, by have := bs_len m h hw; show ((W.take m).flatMap (fun x => x.recs)).length ≤ _; omega, by show (0 : Nat) ≤ _; omega, fun x hx => by cases hx⟩
structure Wk (W : List Fil) : Prop where
  key : ∀ x ∈ W, ∀ r ∈ x.recs, r.key.size ≤ 300
  n : W.length ≤ 10
  ck : ∀ x ∈ W, (ckF x != 0) = false
  fr : ∀ x ∈ W, x.fr = (⟨#[115, 111, 117, 116, 104]⟩ : ByteArray)
  r : ∀ x ∈ W, x.recs.length ≤ 20
  sq : ∀ i, i < W.length → (ix W i).seq = (i : Int) + 1
theorem wk_of {p : Ptn} {k : Nat} (h : I1 p k) (h3 : I3 p) (hk : k ≤ 10) : Wk p.wait := ⟨h3.key, by have := h.wl; omega, h3.ck, h3.fr, h.r, fun i hi => by rw [h.sq i hi]; omega⟩
theorem rv_late {W : List Fil} {m i : Nat} (h : Wk W) (hi : i < W.length) (hm : m < i) : rvP (bS W m) (ix W i) = bS W m ∧ rvE (bS W m) (ix W i) = 31 := by
  have h1 := h.ck _ (ix_mem hi)
  have h2 : sEq (ix W i).fr (bS W m).name = true := by rw [h.fr _ (ix_mem hi)]; exact sEq_of rfl
  have h3 : decide ((bS W m).inn < (ix W i).seq) = true := decide_eq_true (by rw [h.sq i hi]; show (m : Int) + 1 < _; omega)
  unfold rvP rvE
  rw [h1, h2, h3]; exact ⟨rfl, rfl⟩
theorem rv_old {W : List Fil} {m i : Nat} (h : Wk W) (hi : i < W.length) (hm : i < m) : rvP (bS W m) (ix W i) = bS W m ∧ rvE (bS W m) (ix W i) = 0 := by
  have h1 := h.ck _ (ix_mem hi)
  have h2 : sEq (ix W i).fr (bS W m).name = true := by rw [h.fr _ (ix_mem hi)]; exact sEq_of rfl
  have h3 : decide ((bS W m).inn < (ix W i).seq) = false := decide_eq_false (by rw [h.sq i hi]; show ¬ (m : Int) + 1 < _; omega)
  have h4 : ((ix W i).seq == (bS W m).inn) = false := beq_eq_false_iff_ne.2 (by rw [h.sq i hi]; show (i : Int) + 1 ≠ (m : Int) + 1; omega)
  unfold rvP rvE
  rw [h1, h2, h3, h4]; exact ⟨rfl, rfl⟩
theorem rv_now {W : List Fil} {m : Nat} (h : Wk W) (hi : m < W.length) : rvP (bS W m) (ix W m) = bS W (m + 1) ∧ rvE (bS W m) (ix W m) = 0 := by
  have h1 := h.ck _ (ix_mem hi)
  have h2 : sEq (ix W m).fr (bS W m).name = true := by rw [h.fr _ (ix_mem hi)]; exact sEq_of rfl
  have h3 : decide ((bS W m).inn < (ix W m).seq) = false := decide_eq_false (by rw [h.sq m hi]; show ¬ (m : Int) + 1 < _; omega)
  have h4 : ((ix W m).seq == (bS W m).inn) = true := beq_iff_eq.2 (h.sq m hi)
  have h6 := h.r _ (ix_mem hi)
  have h5 : decide (1024 < ((bS W m).theirs.length : Int) + ((ix W m).recs.length : Int)) = false := decide_eq_false (by
    have := bs_len m h.r h.n
    show ¬ 1024 < ((((W.take m).flatMap (fun x => x.recs)).length : Nat) : Int) + _
    omega)
  have h7 : W.take (m + 1) = W.take m ++ [ix W m] := take_ix hi
  have h8 : bS W (m + 1) = ⟨(bS W m).name, (bS W m).out, (bS W m).inn + 1, (bS W m).wait, (bS W m).ours, (bS W m).theirs ++ (ix W m).recs⟩ := by
    unfold bS
    rw [h7, List.flatMap_append, List.flatMap_cons, List.flatMap_nil, List.append_nil, Int.natCast_add]; rfl
  rw [h8]
  unfold rvP rvE
  rw [h1, h2, h3, h4, h5]; exact ⟨rfl, rfl⟩
def mvN (m i : Nat) : Nat := bif i == m then m + 1 else m
theorem mv_le {m i n : Nat} (h : m ≤ n) (hi : i < n) : mvN m i ≤ n := by
  unfold mvN
  cases hc : (i == m) with
  | true => have : i = m := by simpa using hc
            show m + 1 ≤ n; omega
  | false => exact h
theorem rv_mv {W : List Fil} {m i : Nat} (h : Wk W) (hi : i < W.length) : rvP (bS W m) (ix W i) = bS W (mvN m i) := by
  unfold mvN
  rcases Nat.lt_trichotomy i m with h1 | h1 | h1
  · rw [show (i == m) = false from beq_eq_false_iff_ne.2 (by omega)]; exact (rv_old h hi h1).1
  · subst h1
    rw [show (i == i) = true from beq_self_eq_true i]; exact (rv_now h hi).1
  · rw [show (i == m) = false from beq_eq_false_iff_ne.2 (by omega)]; exact (rv_late h hi h1).1
theorem bs_end {p : Ptn} {k m : Nat} (h : I1 p k) (h3 : I3 p) (hm : m = p.wait.length) : (bS p.wait m).inn = p.out ∧ (bS p.wait m).theirs = p.ours := by
  refine ⟨?_, ?_⟩
  · show (m : Int) + 1 = p.out
    rw [h.out, hm]
  · show (p.wait.take m).flatMap (fun x => x.recs) = p.ours
    rw [hm, List.take_length, h3.ours]
def eN (m i : Nat) : Int := bif decide (m < i) then 31 else 0
theorem eN_gt {m i : Nat} (h : m < i) : eN m i = 31 := by unfold eN; rw [decide_eq_true h]; rfl
theorem eN_le {m i : Nat} (h : i ≤ m) : eN m i = 0 := by unfold eN; rw [decide_eq_false (by omega)]; rfl
theorem mv_eq {m i : Nat} (h : i = m) : mvN m i = m + 1 := by unfold mvN; rw [h, beq_self_eq_true]; rfl
theorem mv_ne {m i : Nat} (h : i ≠ m) : mvN m i = m := by unfold mvN; rw [beq_eq_false_iff_ne.2 h]; rfl
theorem rv_en {W : List Fil} {m i : Nat} (h : Wk W) (hi : i < W.length) : rvE (bS W m) (ix W i) = eN m i := by
  rcases Nat.lt_trichotomy i m with h1 | h1 | h1
  · rw [eN_le (by omega)]; exact (rv_old h hi h1).2
  · subst h1; rw [eN_le (by omega)]; exact (rv_now h hi).2
  · rw [eN_gt h1]; exact (rv_late h hi h1).2
theorem bneE {a b : Int} (h : a = b) : (a != b) = false := by rw [h]; simp
def prtP (p : Ptn) (s : ByteArray) : Ptn := ⟨s, p.out, p.inn, p.wait, p.ours, p.theirs⟩
def mS (n : Nat) (os : List Int) : Nat → Nat
  | 0 => 0
  | k + 1 => bif decide (0 < (n : Int)) then mvN (mS n os k) (ix os k % (n : Int)).toNat else mS n os k
theorem ms_y {n : Nat} {os : List Int} {k : Nat} (h : decide (0 < (n : Int)) = true) : mS n os (k + 1) = mvN (mS n os k) (ix os k % (n : Int)).toNat := by simp only [mS, h, cond_true]
theorem ms_n {n : Nat} {os : List Int} {k : Nat} (h : decide (0 < (n : Int)) = false) : mS n os (k + 1) = mS n os k := by simp only [mS, h, cond_false]
theorem rem_b {n : Nat} {x : Int} (h : 0 < (n : Int)) : (x % (n : Int)).toNat < n ∧ (((x % (n : Int)).toNat : Nat) : Int) = x % (n : Int) := by
  have h1 := Int.emod_nonneg x (show (n : Int) ≠ 0 by omega)
  have h2 := Int.emod_lt_of_pos x h
  omega
theorem ms_le (n : Nat) (os : List Int) : ∀ k, mS n os k ≤ n
  | 0 => Nat.zero_le _
  | k + 1 => by
    cases h : decide (0 < (n : Int)) with
    | true => rw [ms_y h]; exact mv_le (ms_le n os k) (rem_b (of_decide_eq_true h)).1
    | false => rw [ms_n h]; exact ms_le n os k
def nS (m0 : Nat) : Nat → Nat
  | 0 => m0
  | k + 1 => mvN (nS m0 k) k
theorem ns_ge (m0 : Nat) : ∀ k, k ≤ nS m0 k
  | 0 => Nat.zero_le _
  | k + 1 => by
    have ih := ns_ge m0 k
    show k + 1 ≤ mvN (nS m0 k) k
    by_cases h : k = nS m0 k
    · rw [mv_eq h]; omega
    · rw [mv_ne h]; omega
theorem ns_le {m0 n : Nat} (h : m0 ≤ n) : ∀ k, k ≤ n → nS m0 k ≤ n
  | 0, _ => h
  | k + 1, hk => mv_le (ns_le h k (by omega)) (by omega)
theorem sarE (l m : List Rec) (e : m = l) (h : l.length ≤ 4000) : Ctr Try.prog 11 [.sl 5 (List.map eRec l), .sl 5 (List.map eRec m)] (.d (.fl (.bool true))) := by rw [e]; exact sarC l h

set_option maxHeartbeats 4000000 in
set_option maxRecDepth 100000 in
theorem parC (p : Ptn) (fr : ByteArray) : Ctr Try.prog 10 [.ag (ePt p), .fl (.string fr)] (.d (.ag (ePt (prtP p fr)))) := by
  refine ctr (n := 8) (rs := #[.cell 4 28]) (L := [(0, .d (.ag (ePt p))), (1, .d (.fl (.string fr)))]) Try.func10 rfl rfl rfl rfl rfl (fun w0 U0 => ?_)
  refine a_rseq ?_
  refine rg_nam (d := 2) (v := .pt 101 0) (m := 101) (nw := [(101, .bx 28 (ePt p))]) rfl (og rfl (of_eff (op_box 101 rfl rfl rfl rfl) rfl)) rfl ?_
  refine rg_nam (d := 4) (v := .pt 102 0) (m := 102) (nw := [(102, .bx 28 ([.fl (.string (⟨#[]⟩)), .fl (.int .i64 0), .fl (.int .i64 0), .fl (.slice none 0 0), .fl (.slice none 0 0), .fl (.slice none 0 0)]))]) rfl (og rfl (of_eff (s_alloc 102 rfl ti28 (by kernel_rfl) rfl) rfl)) rfl ?_
  refine rg_done rfl ?_
  refine a_rseq ?_
  refine rg_put (d := 5) (v := .d (.fl (.string fr))) rfl (og rfl (op_move rfl rfl rfl)) ?_
  refine rg_put (d := 6) (v := .pt 101 0) rfl (og rfl (of_eff (s_field_pt rfl Try.underlying28 rfl ti9 rfl rfl rfl) rfl)) ?_
  refine rg_sto (nw := [(101, .bx 28 [.fl (.string fr), .fl (.int .i64 p.out), .fl (.int .i64 p.inn), .sl 4 (List.map eFil p.wait), .sl 5 (List.map eRec p.ours), .sl 5 (List.map eRec p.theirs)])]) rfl (og rfl (of_eff (s_store rfl rfl ti9 rfl rfl rfl rfl rfl rfl) rfl)) ?_
  refine rg_done rfl ?_
  refine a_rseq ?_
  refine rg_put (d := 7) (v := .d (.ag (ePt (Ptn.mk fr p.out p.inn p.wait p.ours p.theirs)))) rfl (og rfl (of_eff (s_load_pts rfl Try.underlying28 rfl ti28 rfl rfl rfl rfl) rfl)) ?_
  refine rg_sto (nw := [(102, .bx 28 ((ePt (Ptn.mk fr p.out p.inn p.wait p.ours p.theirs))))]) rfl (og rfl (of_eff (s_store rfl rfl ti28 rfl rfl rfl rfl rfl rfl) rfl)) ?_
  refine rg_done rfl ?_
  refine a_ret ?_
  show ∃ ds, ResL _ _ _ ds ∧ RV.of ds = _
  refine ⟨[.ag [.fl (.string ((Ptn.mk fr p.out p.inn p.wait p.ours p.theirs).name)), .fl (.int .i64 ((Ptn.mk fr p.out p.inn p.wait p.ours p.theirs).out)), .fl (.int .i64 ((Ptn.mk fr p.out p.inn p.wait p.ours p.theirs).inn)), .sl 4 (List.map eFil ((Ptn.mk fr p.out p.inn p.wait p.ours p.theirs).wait)), .sl 5 (List.map eRec ((Ptn.mk fr p.out p.inn p.wait p.ours p.theirs).ours)), .sl 5 (List.map eRec ((Ptn.mk fr p.out p.inn p.wait p.ours p.theirs).theirs))]], (.cons (.cellT rfl rfl Try.underlying28 rfl ti28 rfl (Cv.ag (xs := [.fl (.string ((Ptn.mk fr p.out p.inn p.wait p.ours p.theirs).name)), .fl (.int .i64 ((Ptn.mk fr p.out p.inn p.wait p.ours p.theirs).out)), .fl (.int .i64 ((Ptn.mk fr p.out p.inn p.wait p.ours p.theirs).inn)), .sl 4 (List.map eFil ((Ptn.mk fr p.out p.inn p.wait p.ours p.theirs).wait)), .sl 5 (List.map eRec ((Ptn.mk fr p.out p.inn p.wait p.ours p.theirs).ours)), .sl 5 (List.map eRec ((Ptn.mk fr p.out p.inn p.wait p.ours p.theirs).theirs))]) (ys := [.fl (.string ((Ptn.mk fr p.out p.inn p.wait p.ours p.theirs).name)), .fl (.int .i64 ((Ptn.mk fr p.out p.inn p.wait p.ours p.theirs).out)), .fl (.int .i64 ((Ptn.mk fr p.out p.inn p.wait p.ours p.theirs).inn)), .sl 4 (List.map eFil ((Ptn.mk fr p.out p.inn p.wait p.ours p.theirs).wait)), .sl 5 (List.map eRec ((Ptn.mk fr p.out p.inn p.wait p.ours p.theirs).ours)), .sl 5 (List.map eRec ((Ptn.mk fr p.out p.inn p.wait p.ours p.theirs).theirs))]) ⟨Cv.refl _, Cv.refl _, Cv.refl _, Cv.refl _, Cv.refl _, Cv.refl _, trivial⟩)) .nil), ?_⟩
  rfl
set_option maxHeartbeats 4000000 in
set_option maxRecDepth 100000 in
theorem clC (W : List Fil) (m i : Nat) (hw : Wk W) (hi : i < W.length) (hmw : m ≤ W.length) : CtrX Try.prog 8 [.d (.fl (.int .i64 (i : Int))), .p 0, .p 1] [.bx 28 ((ePt (bS W m))), .bx 25 [.sl 4 (List.map eFil W)]] [.bx 28 ((ePt (bS W (mvN m i)))), .bx 25 [.sl 4 (List.map eFil W)]] (.d (.fl (.bool true))) := by
  have hin : (bS W m).inn = (m : Int) + 1 := rfl
  have hwn := hw.n
  refine ctrX (n := 68) (rs := #[.tmp 4]) Try.func8 rfl rfl rfl rfl rfl rfl rfl rfl (fun w0 U0 vv H V Q => ?_)
  show A _ _ _ _ _ _ (SS [(0, .d (.fl (.int .i64 (i : Int)))), (1, .pv 0 (vv 1)), (2, .pv 1 (vv 2))] [(0, .bx 28 ((ePt (bS W m)))), (1, .bx 25 [.sl 4 (List.map eFil W)]), (2, .pin H V Q)])
  refine a_rseq ?_
  refine rg_put (d := 4) (v := .d (.fl (.bool false))) rfl (og rfl (op_assign rfl rfl rfl)) ?_
  refine rg_done rfl ?_
  refine a_rseq ?_
  refine rg_put (d := 8) (v := .pt 0 2) rfl (og rfl (of_eff (s_field_pv rfl Try.underlying28 rfl ti3 rfl rfl rfl) rfl)) ?_
  refine rg_put (d := 9) (v := .d (.fl (.int .i64 ((bS W m).inn)))) rfl (og rfl (op_load_pt rfl Try.underlying3 rfl rfl rfl rfl rfl)) ?_
  refine rg_put (d := 5) (v := .d (.fl (.int .i64 ((bS W m).inn)))) rfl (og rfl (op_assign rfl rfl rfl)) ?_
  refine rg_done rfl ?_
  refine a_dseq (by kernel_rfl) ?_
  refine dr_put (d := 11) (v := .d (.ag (ePt (bS W m)))) rfl (og rfl (of_eff (s_load_pts rfl Try.underlying28 rfl ti28 rfl rfl rfl rfl) rfl)) ?_
  refine dr_put (d := 12) (v := .d (.ag (ePt (bS W m)))) rfl (og rfl (op_call rfl Try.func10 nm10 rfl (.cons rfl (.d _) (.cons rfl (.d _) .nil)) (parC (bS W m) (⟨#[115, 111, 117, 116, 104]⟩ : ByteArray)) rfl)) ?_
  refine dr_put (d := 13) (v := .d (.sl 4 (List.map eFil W))) rfl (og rfl (op_load_pt rfl Try.underlying25 rfl rfl rfl rfl rfl)) ?_
  refine dr_put (d := 14) (v := .d (.fl (.int .i64 (i : Int)))) rfl (og rfl (op_move rfl rfl rfl)) ?_
  refine dr_put (d := 15) (v := .el ((eFil (ix W i)))) rfl (og rfl (s_index rfl Try.underlying25 ti34 rfl rfl (by omega) (row_at (by omega)) rfl)) ?_
  refine dr_put (d := 16) (v := .d (.ag (eFil (ix W i)))) rfl (og rfl (of_eff (s_load_els rfl Try.underlying34 rfl ti34 rfl rfl rfl) rfl)) ?_
  refine dr_put (d := 17) (v := .tu [.ag (ePt ((bS W (mvN m i)))), .fl (.int .i64 (eN m i))]) rfl (og rfl (op_call rfl Try.func9 nm9 rfl (.cons rfl (.d _) (.cons rfl (.d _) .nil)) ((by have h := rvC (bS W m) (ix W i) (bs_ok m hw.r hw.n) (hw.key _ (ix_mem hi)) (by have := hw.r _ (ix_mem hi); omega); rw [rv_mv hw hi, rv_en hw hi] at h; exact h)) rfl)) ?_
  refine dr_put (d := 10) (v := .tu [.ag (ePt ((bS W (mvN m i)))), .fl (.int .i64 (eN m i))]) rfl (og rfl (op_move rfl rfl rfl)) ?_
  refine dr_put (d := 18) (v := .d (.ag (ePt ((bS W (mvN m i)))))) rfl (og rfl (op_extract rfl rfl rfl rfl)) ?_
  refine dr_put (d := 19) (v := .d (.fl (.int .i64 (eN m i)))) rfl (og rfl (op_extract rfl rfl rfl rfl)) ?_
  refine dr_nam (d := 6) (v := .pt 101 0) (m := 101) (nw := [(101, .bx 28 ([.fl (.string (⟨#[]⟩)), .fl (.int .i64 0), .fl (.int .i64 0), .fl (.slice none 0 0), .fl (.slice none 0 0), .fl (.slice none 0 0)]))]) rfl (og rfl (of_eff (s_alloc 101 rfl ti28 (by kernel_rfl) rfl) rfl)) ?_
  refine dr_sto (nw := [(101, .bx 28 ((ePt ((bS W (mvN m i))))))]) rfl (og rfl (of_eff (s_store rfl rfl ti28 rfl rfl rfl rfl rfl rfl) rfl)) ?_
  refine dr_put (d := 7) (v := .d (.fl (.int .i64 (eN m i)))) rfl (og rfl (op_assign rfl rfl rfl)) ?_
  refine dr_done rfl (by kernel_rfl) (by kernel_rfl) ?_
  refine a_seq ?_
  refine a_rseq ?_
  refine rg_put (d := 20) (v := .d (.fl (.int .i64 (i : Int)))) rfl (og rfl (op_move rfl rfl rfl)) ?_
  refine rg_put (d := 21) (v := .d (.fl (.int .i64 (((i : Int) + 1))))) rfl (og rfl (op_bin rfl rfl rfl (fun x y w => b_add64 _ _ _ x y w (by omega)) rfl)) ?_
  refine rg_put (d := 22) (v := .d (.fl (.int .i64 ((bS W m).inn)))) rfl (og rfl (op_move rfl rfl rfl)) ?_
  refine rg_put (d := 23) (v := .d (.fl (.bool ((decide ((bS W m).inn < ((i : Int) + 1))))))) rfl (og rfl (op_bin rfl rfl rfl (b_gtr _ _ _ _) rfl)) ?_
  refine rg_put (d := 24) (v := .d (.fl (.bool ((decide ((bS W m).inn < ((i : Int) + 1))))))) rfl (og rfl (op_move rfl rfl rfl)) ?_
  rcases fot ((decide ((bS W m).inn < ((i : Int) + 1)))) with h1 | h1
  · skip
    have h2 := f_dec h1
    refine rg_put (d := 25) (v := .d (.fl undef)) rfl (on rfl rfl rfl h1) ?_
    refine rg_put (d := 26) (v := .d (.fl undef)) rfl (on rfl rfl rfl h1) ?_
    refine rg_put (d := 27) (v := .d (.fl undef)) rfl (on rfl rfl rfl h1) ?_
    refine rg_put (d := 28) (v := .d (.fl undef)) rfl (ou rfl rfl rfl) ?_
    refine rg_put (d := 29) (v := .d (.fl undef)) rfl (ou rfl rfl rfl) ?_
    refine rg_put (d := 30) (v := .d (.fl undef)) rfl (ou rfl rfl rfl) ?_
    refine rg_put (d := 31) (v := .d (.fl undef)) rfl (ou rfl rfl rfl) ?_
    refine rg_put (d := 32) (v := .d (.fl undef)) rfl (on rfl rfl rfl h1) ?_
    refine rg_put (d := 33) (v := .d (.fl (.bool false))) rfl (og rfl (op_pick rfl rfl (by rw [h1]; rfl) rfl)) ?_
    refine rg_put (d := 34) (v := .d (.fl (.bool false))) rfl (og rfl (op_move rfl rfl rfl)) ?_
    refine rg_put (d := 35) (v := .d (.fl (.int .i64 (i : Int)))) rfl (oy rfl rfl rfl rfl (op_move rfl rfl rfl)) ?_
    refine rg_put (d := 36) (v := .d (.fl (.int .i64 (((i : Int) + 1))))) rfl (oy rfl rfl rfl rfl (op_bin rfl rfl rfl (fun x y w => b_add64 _ _ _ x y w (by omega)) rfl)) ?_
    refine rg_put (d := 37) (v := .d (.fl (.int .i64 ((bS W m).inn)))) rfl (oy rfl rfl rfl rfl (op_move rfl rfl rfl)) ?_
    refine rg_put (d := 38) (v := .d (.fl (.bool ((((i : Int) + 1) == (bS W m).inn))))) rfl (oy rfl rfl rfl rfl (op_bin rfl rfl rfl (b_eql _ _ _ _) rfl)) ?_
    refine rg_put (d := 39) (v := .d (.fl (.bool ((((i : Int) + 1) == (bS W m).inn))))) rfl (oy rfl rfl rfl rfl (op_move rfl rfl rfl)) ?_
    rcases fot ((((i : Int) + 1) == (bS W m).inn)) with h3 | h3
    · skip
      have h4 := f_beq h3
      refine rg_put (d := 40) (v := .d (.fl undef)) rfl (on rfl rfl rfl h3) ?_
      refine rg_put (d := 41) (v := .d (.fl undef)) rfl (on rfl rfl rfl h3) ?_
      refine rg_put (d := 42) (v := .d (.fl undef)) rfl (on rfl rfl rfl h3) ?_
      refine rg_put (d := 43) (v := .d (.fl undef)) rfl (ou rfl rfl rfl) ?_
      refine rg_put (d := 44) (v := .d (.fl undef)) rfl (ou rfl rfl rfl) ?_
      refine rg_put (d := 45) (v := .d (.fl undef)) rfl (ou rfl rfl rfl) ?_
      refine rg_put (d := 46) (v := .d (.fl undef)) rfl (ou rfl rfl rfl) ?_
      refine rg_put (d := 47) (v := .d (.fl undef)) rfl (ou rfl rfl rfl) ?_
      refine rg_put (d := 48) (v := .d (.fl undef)) rfl (on rfl rfl rfl h3) ?_
      refine rg_put (d := 49) (v := .d (.fl (.bool false))) rfl (oy rfl rfl rfl rfl (op_pick rfl rfl (by rw [h3]; rfl) rfl)) ?_
      refine rg_put (d := 50) (v := .d (.fl (.bool false))) rfl (og rfl (op_pick rfl rfl rfl rfl)) ?_
      refine rg_put (d := 51) (v := .d (.fl (.bool false))) rfl (og rfl (op_move rfl rfl rfl)) ?_
      refine rg_put (d := 52) (v := .d (.fl (.int .i64 (i : Int)))) rfl (oy rfl rfl rfl rfl (op_move rfl rfl rfl)) ?_
      refine rg_put (d := 53) (v := .d (.fl (.int .i64 (((i : Int) + 1))))) rfl (oy rfl rfl rfl rfl (op_bin rfl rfl rfl (fun x y w => b_add64 _ _ _ x y w (by omega)) rfl)) ?_
      refine rg_put (d := 54) (v := .d (.fl (.int .i64 ((bS W m).inn)))) rfl (oy rfl rfl rfl rfl (op_move rfl rfl rfl)) ?_
      refine rg_put (d := 55) (v := .d (.fl (.bool ((decide (((i : Int) + 1) < (bS W m).inn)))))) rfl (oy rfl rfl rfl rfl (op_bin rfl rfl rfl (b_lss _ _ _ _) rfl)) ?_
      refine rg_put (d := 56) (v := .d (.fl (.bool ((decide (((i : Int) + 1) < (bS W m).inn)))))) rfl (oy rfl rfl rfl rfl (op_move rfl rfl rfl)) ?_
      rcases fot ((decide (((i : Int) + 1) < (bS W m).inn))) with h5 | h5
      · skip
        have h6 := f_dec h5
        refine rg_put (d := 57) (v := .d (.fl undef)) rfl (on rfl rfl rfl h5) ?_
        refine rg_put (d := 58) (v := .d (.fl undef)) rfl (on rfl rfl rfl h5) ?_
        refine rg_put (d := 59) (v := .d (.fl undef)) rfl (on rfl rfl rfl h5) ?_
        refine rg_put (d := 60) (v := .d (.fl undef)) rfl (ou rfl rfl rfl) ?_
        refine rg_put (d := 61) (v := .d (.fl undef)) rfl (ou rfl rfl rfl) ?_
        refine rg_put (d := 62) (v := .d (.fl undef)) rfl (ou rfl rfl rfl) ?_
        refine rg_put (d := 63) (v := .d (.fl undef)) rfl (ou rfl rfl rfl) ?_
        refine rg_put (d := 64) (v := .d (.fl undef)) rfl (on rfl rfl rfl h5) ?_
        refine rg_put (d := 65) (v := .d (.fl (.bool false))) rfl (oy rfl rfl rfl rfl (op_pick rfl rfl (by rw [h5]; rfl) rfl)) ?_
        refine rg_put (d := 66) (v := .d (.fl (.bool false))) rfl (og rfl (op_pick rfl rfl rfl rfl)) ?_
        refine rg_done rfl ?_
        refine a_condF rfl rfl ?_
        refine a_skip ?_
        show A _ _ _ _ _ _ _
        refine a_rseq ?_
        refine rg_put (d := 67) (v := .d (.ag (ePt (((bS W (mvN m i))))))) rfl (og rfl (of_eff (s_load_pts rfl Try.underlying28 rfl ti28 rfl rfl rfl rfl) rfl)) ?_
        refine rg_sto (nw := [(0, .bx 28 ((ePt (((bS W (mvN m i)))))))]) rfl (og rfl (of_eff (s_store rfl rfl ti28 rfl rfl rfl rfl rfl rfl) rfl)) ?_
        refine rg_done rfl ?_
        refine a_rseq ?_
        refine rg_put (d := 4) (v := .d (.fl (.bool true))) rfl (og rfl (op_assign rfl rfl rfl)) ?_
        refine rg_done rfl ?_
        refine a_ret ?_
        show (∃ ds, ResL _ _ _ ds ∧ RV.of ds = _) ∧ _ ∧ _
        refine ⟨⟨[.fl (.bool true)], (.cons (.tmp rfl (.d _)) .nil), ?_⟩, (And.intro rfl (And.intro rfl trivial)), (And.intro rfl (And.intro rfl rfl))⟩
        rfl
      · skip
        have h7 := t_dec h5
        refine rg_put (d := 57) (v := .d (.fl (.int .i64 (eN m i)))) rfl (oy rfl rfl rfl h5 (op_move rfl rfl rfl)) ?_
        refine rg_put (d := 58) (v := .d (.fl (.bool (((eN m i) != 0))))) rfl (oy rfl rfl rfl h5 (op_bin rfl rfl rfl (b_neq _ _ _ _) rfl)) ?_
        refine rg_put (d := 59) (v := .d (.fl (.bool (((eN m i) != 0))))) rfl (oy rfl rfl rfl h5 (op_move rfl rfl rfl)) ?_
        refine rg_put (d := 60) (v := .pt 101 2) rfl (oy rfl rfl rfl (show (((eN m i) != 0)) = false from (by rw [eN_le (by omega)]; rfl)) (of_eff (s_field_pt rfl Try.underlying28 rfl ti3 rfl rfl rfl) rfl)) ?_
        refine rg_put (d := 61) (v := .d (.fl (.int .i64 (((bS W (mvN m i))).inn)))) rfl (oy rfl rfl rfl (show (((eN m i) != 0)) = false from (by rw [eN_le (by omega)]; rfl)) (op_load_pt rfl Try.underlying3 rfl rfl rfl rfl rfl)) ?_
        refine rg_put (d := 62) (v := .d (.fl (.int .i64 ((bS W m).inn)))) rfl (oy rfl rfl rfl (show (((eN m i) != 0)) = false from (by rw [eN_le (by omega)]; rfl)) (op_move rfl rfl rfl)) ?_
        refine rg_put (d := 63) (v := .d (.fl (.bool ((((bS W (mvN m i))).inn != (bS W m).inn))))) rfl (oy rfl rfl rfl (show (((eN m i) != 0)) = false from (by rw [eN_le (by omega)]; rfl)) (op_bin rfl rfl rfl (b_neq _ _ _ _) rfl)) ?_
        refine rg_put (d := 64) (v := .d (.fl (.bool ((((bS W (mvN m i))).inn != (bS W m).inn))))) rfl (oy rfl rfl rfl h5 (op_pick rfl rfl (by rw [(show (((eN m i) != 0)) = false from (by rw [eN_le (by omega)]; rfl))]; rfl) rfl)) ?_
        refine rg_put (d := 65) (v := .d (.fl (.bool ((((bS W (mvN m i))).inn != (bS W m).inn))))) rfl (oy rfl rfl rfl rfl (op_pick rfl rfl (by rw [h5]; rfl) rfl)) ?_
        refine rg_put (d := 66) (v := .d (.fl (.bool ((((bS W (mvN m i))).inn != (bS W m).inn))))) rfl (og rfl (op_pick rfl rfl rfl rfl)) ?_
        refine rg_done rfl ?_
        refine a_condF rfl (show ((((bS W (mvN m i))).inn != (bS W m).inn)) = false from (bneE (by rw [mv_ne (by omega)]))) ?_
        refine a_skip ?_
        show A _ _ _ _ _ _ _
        refine a_rseq ?_
        refine rg_put (d := 67) (v := .d (.ag (ePt (((bS W (mvN m i))))))) rfl (og rfl (of_eff (s_load_pts rfl Try.underlying28 rfl ti28 rfl rfl rfl rfl) rfl)) ?_
        refine rg_sto (nw := [(0, .bx 28 ((ePt (((bS W (mvN m i)))))))]) rfl (og rfl (of_eff (s_store rfl rfl ti28 rfl rfl rfl rfl rfl rfl) rfl)) ?_
        refine rg_done rfl ?_
        refine a_rseq ?_
        refine rg_put (d := 4) (v := .d (.fl (.bool true))) rfl (og rfl (op_assign rfl rfl rfl)) ?_
        refine rg_done rfl ?_
        refine a_ret ?_
        show (∃ ds, ResL _ _ _ ds ∧ RV.of ds = _) ∧ _ ∧ _
        refine ⟨⟨[.fl (.bool true)], (.cons (.tmp rfl (.d _)) .nil), ?_⟩, (And.intro rfl (And.intro rfl trivial)), (And.intro rfl (And.intro rfl rfl))⟩
        rfl
    · skip
      have h8 := t_beq h3
      refine rg_put (d := 40) (v := .d (.fl (.int .i64 (eN m i)))) rfl (oy rfl rfl rfl h3 (op_move rfl rfl rfl)) ?_
      refine rg_put (d := 41) (v := .d (.fl (.bool (((eN m i) != 0))))) rfl (oy rfl rfl rfl h3 (op_bin rfl rfl rfl (b_neq _ _ _ _) rfl)) ?_
      refine rg_put (d := 42) (v := .d (.fl (.bool (((eN m i) != 0))))) rfl (oy rfl rfl rfl h3 (op_move rfl rfl rfl)) ?_
      refine rg_put (d := 43) (v := .pt 101 2) rfl (oy rfl rfl rfl (show (((eN m i) != 0)) = false from (by rw [eN_le (by omega)]; rfl)) (of_eff (s_field_pt rfl Try.underlying28 rfl ti3 rfl rfl rfl) rfl)) ?_
      refine rg_put (d := 44) (v := .d (.fl (.int .i64 (((bS W (mvN m i))).inn)))) rfl (oy rfl rfl rfl (show (((eN m i) != 0)) = false from (by rw [eN_le (by omega)]; rfl)) (op_load_pt rfl Try.underlying3 rfl rfl rfl rfl rfl)) ?_
      refine rg_put (d := 45) (v := .d (.fl (.int .i64 ((bS W m).inn)))) rfl (oy rfl rfl rfl (show (((eN m i) != 0)) = false from (by rw [eN_le (by omega)]; rfl)) (op_move rfl rfl rfl)) ?_
      refine rg_put (d := 46) (v := .d (.fl (.int .i64 (((bS W m).inn + 1))))) rfl (oy rfl rfl rfl (show (((eN m i) != 0)) = false from (by rw [eN_le (by omega)]; rfl)) (op_bin rfl rfl rfl (fun x y w => b_add64 _ _ _ x y w (by omega)) rfl)) ?_
      refine rg_put (d := 47) (v := .d (.fl (.bool ((((bS W (mvN m i))).inn != ((bS W m).inn + 1)))))) rfl (oy rfl rfl rfl (show (((eN m i) != 0)) = false from (by rw [eN_le (by omega)]; rfl)) (op_bin rfl rfl rfl (b_neq _ _ _ _) rfl)) ?_
      refine rg_put (d := 48) (v := .d (.fl (.bool ((((bS W (mvN m i))).inn != ((bS W m).inn + 1)))))) rfl (oy rfl rfl rfl h3 (op_pick rfl rfl (by rw [(show (((eN m i) != 0)) = false from (by rw [eN_le (by omega)]; rfl))]; rfl) rfl)) ?_
      refine rg_put (d := 49) (v := .d (.fl (.bool ((((bS W (mvN m i))).inn != ((bS W m).inn + 1)))))) rfl (oy rfl rfl rfl rfl (op_pick rfl rfl (by rw [h3]; rfl) rfl)) ?_
      refine rg_put (d := 50) (v := .d (.fl (.bool ((((bS W (mvN m i))).inn != ((bS W m).inn + 1)))))) rfl (og rfl (op_pick rfl rfl rfl rfl)) ?_
      refine rg_put (d := 51) (v := .d (.fl (.bool ((((bS W (mvN m i))).inn != ((bS W m).inn + 1)))))) rfl (og rfl (op_move rfl rfl rfl)) ?_
      refine rg_put (d := 52) (v := .d (.fl (.int .i64 (i : Int)))) rfl (oy rfl rfl rfl (show ((((bS W (mvN m i))).inn != ((bS W m).inn + 1))) = false from (bneE (by rw [mv_eq (by omega)]; show ((m + 1 : Nat) : Int) + 1 = ((m : Int) + 1) + 1; omega))) (op_move rfl rfl rfl)) ?_
      refine rg_put (d := 53) (v := .d (.fl (.int .i64 (((i : Int) + 1))))) rfl (oy rfl rfl rfl (show ((((bS W (mvN m i))).inn != ((bS W m).inn + 1))) = false from (bneE (by rw [mv_eq (by omega)]; show ((m + 1 : Nat) : Int) + 1 = ((m : Int) + 1) + 1; omega))) (op_bin rfl rfl rfl (fun x y w => b_add64 _ _ _ x y w (by omega)) rfl)) ?_
      refine rg_put (d := 54) (v := .d (.fl (.int .i64 ((bS W m).inn)))) rfl (oy rfl rfl rfl (show ((((bS W (mvN m i))).inn != ((bS W m).inn + 1))) = false from (bneE (by rw [mv_eq (by omega)]; show ((m + 1 : Nat) : Int) + 1 = ((m : Int) + 1) + 1; omega))) (op_move rfl rfl rfl)) ?_
      refine rg_put (d := 55) (v := .d (.fl (.bool ((decide (((i : Int) + 1) < (bS W m).inn)))))) rfl (oy rfl rfl rfl (show ((((bS W (mvN m i))).inn != ((bS W m).inn + 1))) = false from (bneE (by rw [mv_eq (by omega)]; show ((m + 1 : Nat) : Int) + 1 = ((m : Int) + 1) + 1; omega))) (op_bin rfl rfl rfl (b_lss _ _ _ _) rfl)) ?_
      refine rg_put (d := 56) (v := .d (.fl (.bool ((decide (((i : Int) + 1) < (bS W m).inn)))))) rfl (oy rfl rfl rfl (show ((((bS W (mvN m i))).inn != ((bS W m).inn + 1))) = false from (bneE (by rw [mv_eq (by omega)]; show ((m + 1 : Nat) : Int) + 1 = ((m : Int) + 1) + 1; omega))) (op_move rfl rfl rfl)) ?_
      rcases fot ((decide (((i : Int) + 1) < (bS W m).inn))) with h9 | h9
      · skip
        have h10 := f_dec h9
        refine rg_put (d := 57) (v := .d (.fl undef)) rfl (on rfl rfl rfl h9) ?_
        refine rg_put (d := 58) (v := .d (.fl undef)) rfl (on rfl rfl rfl h9) ?_
        refine rg_put (d := 59) (v := .d (.fl undef)) rfl (on rfl rfl rfl h9) ?_
        refine rg_put (d := 60) (v := .d (.fl undef)) rfl (ou rfl rfl rfl) ?_
        refine rg_put (d := 61) (v := .d (.fl undef)) rfl (ou rfl rfl rfl) ?_
        refine rg_put (d := 62) (v := .d (.fl undef)) rfl (ou rfl rfl rfl) ?_
        refine rg_put (d := 63) (v := .d (.fl undef)) rfl (ou rfl rfl rfl) ?_
        refine rg_put (d := 64) (v := .d (.fl undef)) rfl (on rfl rfl rfl h9) ?_
        refine rg_put (d := 65) (v := .d (.fl (.bool false))) rfl (oy rfl rfl rfl (show ((((bS W (mvN m i))).inn != ((bS W m).inn + 1))) = false from (bneE (by rw [mv_eq (by omega)]; show ((m + 1 : Nat) : Int) + 1 = ((m : Int) + 1) + 1; omega))) (op_pick rfl rfl (by rw [h9]; rfl) rfl)) ?_
        refine rg_put (d := 66) (v := .d (.fl (.bool false))) rfl (og rfl (op_pick rfl rfl (by rw [(show ((((bS W (mvN m i))).inn != ((bS W m).inn + 1))) = false from (bneE (by rw [mv_eq (by omega)]; show ((m + 1 : Nat) : Int) + 1 = ((m : Int) + 1) + 1; omega)))]; rfl) rfl)) ?_
        refine rg_done rfl ?_
        refine a_condF rfl rfl ?_
        refine a_skip ?_
        show A _ _ _ _ _ _ _
        refine a_rseq ?_
        refine rg_put (d := 67) (v := .d (.ag (ePt (((bS W (mvN m i))))))) rfl (og rfl (of_eff (s_load_pts rfl Try.underlying28 rfl ti28 rfl rfl rfl rfl) rfl)) ?_
        refine rg_sto (nw := [(0, .bx 28 ((ePt (((bS W (mvN m i)))))))]) rfl (og rfl (of_eff (s_store rfl rfl ti28 rfl rfl rfl rfl rfl rfl) rfl)) ?_
        refine rg_done rfl ?_
        refine a_rseq ?_
        refine rg_put (d := 4) (v := .d (.fl (.bool true))) rfl (og rfl (op_assign rfl rfl rfl)) ?_
        refine rg_done rfl ?_
        refine a_ret ?_
        show (∃ ds, ResL _ _ _ ds ∧ RV.of ds = _) ∧ _ ∧ _
        refine ⟨⟨[.fl (.bool true)], (.cons (.tmp rfl (.d _)) .nil), ?_⟩, (And.intro rfl (And.intro rfl trivial)), (And.intro rfl (And.intro rfl rfl))⟩
        rfl
      · skip
        have h11 := t_dec h9
        refine rg_put (d := 57) (v := .d (.fl (.int .i64 (eN m i)))) rfl (oy rfl rfl rfl h9 (op_move rfl rfl rfl)) ?_
        refine rg_put (d := 58) (v := .d (.fl (.bool (((eN m i) != 0))))) rfl (oy rfl rfl rfl h9 (op_bin rfl rfl rfl (b_neq _ _ _ _) rfl)) ?_
        refine rg_put (d := 59) (v := .d (.fl (.bool (((eN m i) != 0))))) rfl (oy rfl rfl rfl h9 (op_move rfl rfl rfl)) ?_
        refine rg_put (d := 60) (v := .pt 101 2) rfl (oy rfl rfl rfl (show (((eN m i) != 0)) = false from (by rw [eN_le (by omega)]; rfl)) (of_eff (s_field_pt rfl Try.underlying28 rfl ti3 rfl rfl rfl) rfl)) ?_
        refine rg_put (d := 61) (v := .d (.fl (.int .i64 (((bS W (mvN m i))).inn)))) rfl (oy rfl rfl rfl (show (((eN m i) != 0)) = false from (by rw [eN_le (by omega)]; rfl)) (op_load_pt rfl Try.underlying3 rfl rfl rfl rfl rfl)) ?_
        refine rg_put (d := 62) (v := .d (.fl (.int .i64 ((bS W m).inn)))) rfl (oy rfl rfl rfl (show (((eN m i) != 0)) = false from (by rw [eN_le (by omega)]; rfl)) (op_move rfl rfl rfl)) ?_
        refine rg_put (d := 63) (v := .d (.fl (.bool ((((bS W (mvN m i))).inn != (bS W m).inn))))) rfl (oy rfl rfl rfl (show (((eN m i) != 0)) = false from (by rw [eN_le (by omega)]; rfl)) (op_bin rfl rfl rfl (b_neq _ _ _ _) rfl)) ?_
        refine rg_put (d := 64) (v := .d (.fl (.bool ((((bS W (mvN m i))).inn != (bS W m).inn))))) rfl (oy rfl rfl rfl h9 (op_pick rfl rfl (by rw [(show (((eN m i) != 0)) = false from (by rw [eN_le (by omega)]; rfl))]; rfl) rfl)) ?_
        refine rg_put (d := 65) (v := .d (.fl (.bool ((((bS W (mvN m i))).inn != (bS W m).inn))))) rfl (oy rfl rfl rfl (show ((((bS W (mvN m i))).inn != ((bS W m).inn + 1))) = false from (bneE (by rw [mv_eq (by omega)]; show ((m + 1 : Nat) : Int) + 1 = ((m : Int) + 1) + 1; omega))) (op_pick rfl rfl (by rw [h9]; rfl) rfl)) ?_
        refine rg_put (d := 66) (v := .d (.fl (.bool ((((bS W (mvN m i))).inn != (bS W m).inn))))) rfl (og rfl (op_pick rfl rfl (by rw [(show ((((bS W (mvN m i))).inn != ((bS W m).inn + 1))) = false from (bneE (by rw [mv_eq (by omega)]; show ((m + 1 : Nat) : Int) + 1 = ((m : Int) + 1) + 1; omega)))]; rfl) rfl)) ?_
        refine rg_done rfl ?_
        refine a_condF rfl (show ((((bS W (mvN m i))).inn != (bS W m).inn)) = false from (bneE (by rw [mv_ne (by omega)]))) ?_
        refine a_skip ?_
        show A _ _ _ _ _ _ _
        refine a_rseq ?_
        refine rg_put (d := 67) (v := .d (.ag (ePt (((bS W (mvN m i))))))) rfl (og rfl (of_eff (s_load_pts rfl Try.underlying28 rfl ti28 rfl rfl rfl rfl) rfl)) ?_
        refine rg_sto (nw := [(0, .bx 28 ((ePt (((bS W (mvN m i)))))))]) rfl (og rfl (of_eff (s_store rfl rfl ti28 rfl rfl rfl rfl rfl rfl) rfl)) ?_
        refine rg_done rfl ?_
        refine a_rseq ?_
        refine rg_put (d := 4) (v := .d (.fl (.bool true))) rfl (og rfl (op_assign rfl rfl rfl)) ?_
        refine rg_done rfl ?_
        refine a_ret ?_
        show (∃ ds, ResL _ _ _ ds ∧ RV.of ds = _) ∧ _ ∧ _
        refine ⟨⟨[.fl (.bool true)], (.cons (.tmp rfl (.d _)) .nil), ?_⟩, (And.intro rfl (And.intro rfl trivial)), (And.intro rfl (And.intro rfl rfl))⟩
        rfl
  · skip
    have h12 := t_dec h1
    refine rg_put (d := 25) (v := .d (.fl (.int .i64 (eN m i)))) rfl (oy rfl rfl rfl h1 (op_move rfl rfl rfl)) ?_
    refine rg_put (d := 26) (v := .d (.fl (.bool (((eN m i) != 31))))) rfl (oy rfl rfl rfl h1 (op_bin rfl rfl rfl (b_neq _ _ _ _) rfl)) ?_
    refine rg_put (d := 27) (v := .d (.fl (.bool (((eN m i) != 31))))) rfl (oy rfl rfl rfl h1 (op_move rfl rfl rfl)) ?_
    refine rg_put (d := 28) (v := .pt 101 2) rfl (oy rfl rfl rfl (show (((eN m i) != 31)) = false from (by rw [eN_gt (by omega)]; rfl)) (of_eff (s_field_pt rfl Try.underlying28 rfl ti3 rfl rfl rfl) rfl)) ?_
    refine rg_put (d := 29) (v := .d (.fl (.int .i64 (((bS W (mvN m i))).inn)))) rfl (oy rfl rfl rfl (show (((eN m i) != 31)) = false from (by rw [eN_gt (by omega)]; rfl)) (op_load_pt rfl Try.underlying3 rfl rfl rfl rfl rfl)) ?_
    refine rg_put (d := 30) (v := .d (.fl (.int .i64 ((bS W m).inn)))) rfl (oy rfl rfl rfl (show (((eN m i) != 31)) = false from (by rw [eN_gt (by omega)]; rfl)) (op_move rfl rfl rfl)) ?_
    refine rg_put (d := 31) (v := .d (.fl (.bool ((((bS W (mvN m i))).inn != (bS W m).inn))))) rfl (oy rfl rfl rfl (show (((eN m i) != 31)) = false from (by rw [eN_gt (by omega)]; rfl)) (op_bin rfl rfl rfl (b_neq _ _ _ _) rfl)) ?_
    refine rg_put (d := 32) (v := .d (.fl (.bool ((((bS W (mvN m i))).inn != (bS W m).inn))))) rfl (oy rfl rfl rfl h1 (op_pick rfl rfl (by rw [(show (((eN m i) != 31)) = false from (by rw [eN_gt (by omega)]; rfl))]; rfl) rfl)) ?_
    refine rg_put (d := 33) (v := .d (.fl (.bool ((((bS W (mvN m i))).inn != (bS W m).inn))))) rfl (og rfl (op_pick rfl rfl (by rw [h1]; rfl) rfl)) ?_
    refine rg_put (d := 34) (v := .d (.fl (.bool ((((bS W (mvN m i))).inn != (bS W m).inn))))) rfl (og rfl (op_move rfl rfl rfl)) ?_
    refine rg_put (d := 35) (v := .d (.fl (.int .i64 (i : Int)))) rfl (oy rfl rfl rfl (show ((((bS W (mvN m i))).inn != (bS W m).inn)) = false from (bneE (by rw [mv_ne (by omega)]))) (op_move rfl rfl rfl)) ?_
    refine rg_put (d := 36) (v := .d (.fl (.int .i64 (((i : Int) + 1))))) rfl (oy rfl rfl rfl (show ((((bS W (mvN m i))).inn != (bS W m).inn)) = false from (bneE (by rw [mv_ne (by omega)]))) (op_bin rfl rfl rfl (fun x y w => b_add64 _ _ _ x y w (by omega)) rfl)) ?_
    refine rg_put (d := 37) (v := .d (.fl (.int .i64 ((bS W m).inn)))) rfl (oy rfl rfl rfl (show ((((bS W (mvN m i))).inn != (bS W m).inn)) = false from (bneE (by rw [mv_ne (by omega)]))) (op_move rfl rfl rfl)) ?_
    refine rg_put (d := 38) (v := .d (.fl (.bool ((((i : Int) + 1) == (bS W m).inn))))) rfl (oy rfl rfl rfl (show ((((bS W (mvN m i))).inn != (bS W m).inn)) = false from (bneE (by rw [mv_ne (by omega)]))) (op_bin rfl rfl rfl (b_eql _ _ _ _) rfl)) ?_
    refine rg_put (d := 39) (v := .d (.fl (.bool ((((i : Int) + 1) == (bS W m).inn))))) rfl (oy rfl rfl rfl (show ((((bS W (mvN m i))).inn != (bS W m).inn)) = false from (bneE (by rw [mv_ne (by omega)]))) (op_move rfl rfl rfl)) ?_
    rcases fot ((((i : Int) + 1) == (bS W m).inn)) with h13 | h13
    · skip
      have h14 := f_beq h13
      refine rg_put (d := 40) (v := .d (.fl undef)) rfl (on rfl rfl rfl h13) ?_
      refine rg_put (d := 41) (v := .d (.fl undef)) rfl (on rfl rfl rfl h13) ?_
      refine rg_put (d := 42) (v := .d (.fl undef)) rfl (on rfl rfl rfl h13) ?_
      refine rg_put (d := 43) (v := .d (.fl undef)) rfl (ou rfl rfl rfl) ?_
      refine rg_put (d := 44) (v := .d (.fl undef)) rfl (ou rfl rfl rfl) ?_
      refine rg_put (d := 45) (v := .d (.fl undef)) rfl (ou rfl rfl rfl) ?_
      refine rg_put (d := 46) (v := .d (.fl undef)) rfl (ou rfl rfl rfl) ?_
      refine rg_put (d := 47) (v := .d (.fl undef)) rfl (ou rfl rfl rfl) ?_
      refine rg_put (d := 48) (v := .d (.fl undef)) rfl (on rfl rfl rfl h13) ?_
      refine rg_put (d := 49) (v := .d (.fl (.bool false))) rfl (oy rfl rfl rfl (show ((((bS W (mvN m i))).inn != (bS W m).inn)) = false from (bneE (by rw [mv_ne (by omega)]))) (op_pick rfl rfl (by rw [h13]; rfl) rfl)) ?_
      refine rg_put (d := 50) (v := .d (.fl (.bool false))) rfl (og rfl (op_pick rfl rfl (by rw [(show ((((bS W (mvN m i))).inn != (bS W m).inn)) = false from (bneE (by rw [mv_ne (by omega)])))]; rfl) rfl)) ?_
      refine rg_put (d := 51) (v := .d (.fl (.bool false))) rfl (og rfl (op_move rfl rfl rfl)) ?_
      refine rg_put (d := 52) (v := .d (.fl (.int .i64 (i : Int)))) rfl (oy rfl rfl rfl rfl (op_move rfl rfl rfl)) ?_
      refine rg_put (d := 53) (v := .d (.fl (.int .i64 (((i : Int) + 1))))) rfl (oy rfl rfl rfl rfl (op_bin rfl rfl rfl (fun x y w => b_add64 _ _ _ x y w (by omega)) rfl)) ?_
      refine rg_put (d := 54) (v := .d (.fl (.int .i64 ((bS W m).inn)))) rfl (oy rfl rfl rfl rfl (op_move rfl rfl rfl)) ?_
      refine rg_put (d := 55) (v := .d (.fl (.bool ((decide (((i : Int) + 1) < (bS W m).inn)))))) rfl (oy rfl rfl rfl rfl (op_bin rfl rfl rfl (b_lss _ _ _ _) rfl)) ?_
      refine rg_put (d := 56) (v := .d (.fl (.bool ((decide (((i : Int) + 1) < (bS W m).inn)))))) rfl (oy rfl rfl rfl rfl (op_move rfl rfl rfl)) ?_
      rcases fot ((decide (((i : Int) + 1) < (bS W m).inn))) with h15 | h15
      · skip
        have h16 := f_dec h15
        refine rg_put (d := 57) (v := .d (.fl undef)) rfl (on rfl rfl rfl h15) ?_
        refine rg_put (d := 58) (v := .d (.fl undef)) rfl (on rfl rfl rfl h15) ?_
        refine rg_put (d := 59) (v := .d (.fl undef)) rfl (on rfl rfl rfl h15) ?_
        refine rg_put (d := 60) (v := .d (.fl undef)) rfl (ou rfl rfl rfl) ?_
        refine rg_put (d := 61) (v := .d (.fl undef)) rfl (ou rfl rfl rfl) ?_
        refine rg_put (d := 62) (v := .d (.fl undef)) rfl (ou rfl rfl rfl) ?_
        refine rg_put (d := 63) (v := .d (.fl undef)) rfl (ou rfl rfl rfl) ?_
        refine rg_put (d := 64) (v := .d (.fl undef)) rfl (on rfl rfl rfl h15) ?_
        refine rg_put (d := 65) (v := .d (.fl (.bool false))) rfl (oy rfl rfl rfl rfl (op_pick rfl rfl (by rw [h15]; rfl) rfl)) ?_
        refine rg_put (d := 66) (v := .d (.fl (.bool false))) rfl (og rfl (op_pick rfl rfl rfl rfl)) ?_
        refine rg_done rfl ?_
        refine a_condF rfl rfl ?_
        refine a_skip ?_
        show A _ _ _ _ _ _ _
        refine a_rseq ?_
        refine rg_put (d := 67) (v := .d (.ag (ePt (((bS W (mvN m i))))))) rfl (og rfl (of_eff (s_load_pts rfl Try.underlying28 rfl ti28 rfl rfl rfl rfl) rfl)) ?_
        refine rg_sto (nw := [(0, .bx 28 ((ePt (((bS W (mvN m i)))))))]) rfl (og rfl (of_eff (s_store rfl rfl ti28 rfl rfl rfl rfl rfl rfl) rfl)) ?_
        refine rg_done rfl ?_
        refine a_rseq ?_
        refine rg_put (d := 4) (v := .d (.fl (.bool true))) rfl (og rfl (op_assign rfl rfl rfl)) ?_
        refine rg_done rfl ?_
        refine a_ret ?_
        show (∃ ds, ResL _ _ _ ds ∧ RV.of ds = _) ∧ _ ∧ _
        refine ⟨⟨[.fl (.bool true)], (.cons (.tmp rfl (.d _)) .nil), ?_⟩, (And.intro rfl (And.intro rfl trivial)), (And.intro rfl (And.intro rfl rfl))⟩
        rfl
      · skip
        have h17 := t_dec h15
        refine rg_put (d := 57) (v := .d (.fl (.int .i64 (eN m i)))) rfl (oy rfl rfl rfl h15 (op_move rfl rfl rfl)) ?_
        refine rg_put (d := 58) (v := .d (.fl (.bool (((eN m i) != 0))))) rfl (oy rfl rfl rfl h15 (op_bin rfl rfl rfl (b_neq _ _ _ _) rfl)) ?_
        refine rg_put (d := 59) (v := .d (.fl (.bool (((eN m i) != 0))))) rfl (oy rfl rfl rfl h15 (op_move rfl rfl rfl)) ?_
        refine rg_put (d := 60) (v := .pt 101 2) rfl (oy rfl rfl rfl (show (((eN m i) != 0)) = false from (by rw [eN_le (by omega)]; rfl)) (of_eff (s_field_pt rfl Try.underlying28 rfl ti3 rfl rfl rfl) rfl)) ?_
        refine rg_put (d := 61) (v := .d (.fl (.int .i64 (((bS W (mvN m i))).inn)))) rfl (oy rfl rfl rfl (show (((eN m i) != 0)) = false from (by rw [eN_le (by omega)]; rfl)) (op_load_pt rfl Try.underlying3 rfl rfl rfl rfl rfl)) ?_
        refine rg_put (d := 62) (v := .d (.fl (.int .i64 ((bS W m).inn)))) rfl (oy rfl rfl rfl (show (((eN m i) != 0)) = false from (by rw [eN_le (by omega)]; rfl)) (op_move rfl rfl rfl)) ?_
        refine rg_put (d := 63) (v := .d (.fl (.bool ((((bS W (mvN m i))).inn != (bS W m).inn))))) rfl (oy rfl rfl rfl (show (((eN m i) != 0)) = false from (by rw [eN_le (by omega)]; rfl)) (op_bin rfl rfl rfl (b_neq _ _ _ _) rfl)) ?_
        refine rg_put (d := 64) (v := .d (.fl (.bool ((((bS W (mvN m i))).inn != (bS W m).inn))))) rfl (oy rfl rfl rfl h15 (op_pick rfl rfl (by rw [(show (((eN m i) != 0)) = false from (by rw [eN_le (by omega)]; rfl))]; rfl) rfl)) ?_
        refine rg_put (d := 65) (v := .d (.fl (.bool ((((bS W (mvN m i))).inn != (bS W m).inn))))) rfl (oy rfl rfl rfl rfl (op_pick rfl rfl (by rw [h15]; rfl) rfl)) ?_
        refine rg_put (d := 66) (v := .d (.fl (.bool ((((bS W (mvN m i))).inn != (bS W m).inn))))) rfl (og rfl (op_pick rfl rfl rfl rfl)) ?_
        refine rg_done rfl ?_
        refine a_condF rfl (show ((((bS W (mvN m i))).inn != (bS W m).inn)) = false from (bneE (by rw [mv_ne (by omega)]))) ?_
        refine a_skip ?_
        show A _ _ _ _ _ _ _
        refine a_rseq ?_
        refine rg_put (d := 67) (v := .d (.ag (ePt (((bS W (mvN m i))))))) rfl (og rfl (of_eff (s_load_pts rfl Try.underlying28 rfl ti28 rfl rfl rfl rfl) rfl)) ?_
        refine rg_sto (nw := [(0, .bx 28 ((ePt (((bS W (mvN m i)))))))]) rfl (og rfl (of_eff (s_store rfl rfl ti28 rfl rfl rfl rfl rfl rfl) rfl)) ?_
        refine rg_done rfl ?_
        refine a_rseq ?_
        refine rg_put (d := 4) (v := .d (.fl (.bool true))) rfl (og rfl (op_assign rfl rfl rfl)) ?_
        refine rg_done rfl ?_
        refine a_ret ?_
        show (∃ ds, ResL _ _ _ ds ∧ RV.of ds = _) ∧ _ ∧ _
        refine ⟨⟨[.fl (.bool true)], (.cons (.tmp rfl (.d _)) .nil), ?_⟩, (And.intro rfl (And.intro rfl trivial)), (And.intro rfl (And.intro rfl rfl))⟩
        rfl
    · skip
      have h18 := t_beq h13
      refine rg_put (d := 40) (v := .d (.fl (.int .i64 (eN m i)))) rfl (oy rfl rfl rfl h13 (op_move rfl rfl rfl)) ?_
      refine rg_put (d := 41) (v := .d (.fl (.bool (((eN m i) != 0))))) rfl (oy rfl rfl rfl h13 (op_bin rfl rfl rfl (b_neq _ _ _ _) rfl)) ?_
      refine rg_put (d := 42) (v := .d (.fl (.bool (((eN m i) != 0))))) rfl (oy rfl rfl rfl h13 (op_move rfl rfl rfl)) ?_
      refine rg_put (d := 43) (v := .pt 101 2) rfl (oy rfl rfl rfl (show (((eN m i) != 0)) = false from (by rw [eN_le (by omega)]; rfl)) (of_eff (s_field_pt rfl Try.underlying28 rfl ti3 rfl rfl rfl) rfl)) ?_
      refine rg_put (d := 44) (v := .d (.fl (.int .i64 (((bS W (mvN m i))).inn)))) rfl (oy rfl rfl rfl (show (((eN m i) != 0)) = false from (by rw [eN_le (by omega)]; rfl)) (op_load_pt rfl Try.underlying3 rfl rfl rfl rfl rfl)) ?_
      refine rg_put (d := 45) (v := .d (.fl (.int .i64 ((bS W m).inn)))) rfl (oy rfl rfl rfl (show (((eN m i) != 0)) = false from (by rw [eN_le (by omega)]; rfl)) (op_move rfl rfl rfl)) ?_
      refine rg_put (d := 46) (v := .d (.fl (.int .i64 (((bS W m).inn + 1))))) rfl (oy rfl rfl rfl (show (((eN m i) != 0)) = false from (by rw [eN_le (by omega)]; rfl)) (op_bin rfl rfl rfl (fun x y w => b_add64 _ _ _ x y w (by omega)) rfl)) ?_
      refine rg_put (d := 47) (v := .d (.fl (.bool ((((bS W (mvN m i))).inn != ((bS W m).inn + 1)))))) rfl (oy rfl rfl rfl (show (((eN m i) != 0)) = false from (by rw [eN_le (by omega)]; rfl)) (op_bin rfl rfl rfl (b_neq _ _ _ _) rfl)) ?_
      refine rg_put (d := 48) (v := .d (.fl (.bool ((((bS W (mvN m i))).inn != ((bS W m).inn + 1)))))) rfl (oy rfl rfl rfl h13 (op_pick rfl rfl (by rw [(show (((eN m i) != 0)) = false from (by rw [eN_le (by omega)]; rfl))]; rfl) rfl)) ?_
      refine rg_put (d := 49) (v := .d (.fl (.bool ((((bS W (mvN m i))).inn != ((bS W m).inn + 1)))))) rfl (oy rfl rfl rfl (show ((((bS W (mvN m i))).inn != (bS W m).inn)) = false from (bneE (by rw [mv_ne (by omega)]))) (op_pick rfl rfl (by rw [h13]; rfl) rfl)) ?_
      refine rg_put (d := 50) (v := .d (.fl (.bool ((((bS W (mvN m i))).inn != ((bS W m).inn + 1)))))) rfl (og rfl (op_pick rfl rfl (by rw [(show ((((bS W (mvN m i))).inn != (bS W m).inn)) = false from (bneE (by rw [mv_ne (by omega)])))]; rfl) rfl)) ?_
      refine rg_put (d := 51) (v := .d (.fl (.bool ((((bS W (mvN m i))).inn != ((bS W m).inn + 1)))))) rfl (og rfl (op_move rfl rfl rfl)) ?_
      refine rg_put (d := 52) (v := .d (.fl (.int .i64 (i : Int)))) rfl (oy rfl rfl rfl (show ((((bS W (mvN m i))).inn != ((bS W m).inn + 1))) = false from (bneE (by rw [mv_eq (by omega)]; show ((m + 1 : Nat) : Int) + 1 = ((m : Int) + 1) + 1; omega))) (op_move rfl rfl rfl)) ?_
      refine rg_put (d := 53) (v := .d (.fl (.int .i64 (((i : Int) + 1))))) rfl (oy rfl rfl rfl (show ((((bS W (mvN m i))).inn != ((bS W m).inn + 1))) = false from (bneE (by rw [mv_eq (by omega)]; show ((m + 1 : Nat) : Int) + 1 = ((m : Int) + 1) + 1; omega))) (op_bin rfl rfl rfl (fun x y w => b_add64 _ _ _ x y w (by omega)) rfl)) ?_
      refine rg_put (d := 54) (v := .d (.fl (.int .i64 ((bS W m).inn)))) rfl (oy rfl rfl rfl (show ((((bS W (mvN m i))).inn != ((bS W m).inn + 1))) = false from (bneE (by rw [mv_eq (by omega)]; show ((m + 1 : Nat) : Int) + 1 = ((m : Int) + 1) + 1; omega))) (op_move rfl rfl rfl)) ?_
      refine rg_put (d := 55) (v := .d (.fl (.bool ((decide (((i : Int) + 1) < (bS W m).inn)))))) rfl (oy rfl rfl rfl (show ((((bS W (mvN m i))).inn != ((bS W m).inn + 1))) = false from (bneE (by rw [mv_eq (by omega)]; show ((m + 1 : Nat) : Int) + 1 = ((m : Int) + 1) + 1; omega))) (op_bin rfl rfl rfl (b_lss _ _ _ _) rfl)) ?_
      refine rg_put (d := 56) (v := .d (.fl (.bool ((decide (((i : Int) + 1) < (bS W m).inn)))))) rfl (oy rfl rfl rfl (show ((((bS W (mvN m i))).inn != ((bS W m).inn + 1))) = false from (bneE (by rw [mv_eq (by omega)]; show ((m + 1 : Nat) : Int) + 1 = ((m : Int) + 1) + 1; omega))) (op_move rfl rfl rfl)) ?_
      rcases fot ((decide (((i : Int) + 1) < (bS W m).inn))) with h19 | h19
      · skip
        have h20 := f_dec h19
        refine rg_put (d := 57) (v := .d (.fl undef)) rfl (on rfl rfl rfl h19) ?_
        refine rg_put (d := 58) (v := .d (.fl undef)) rfl (on rfl rfl rfl h19) ?_
        refine rg_put (d := 59) (v := .d (.fl undef)) rfl (on rfl rfl rfl h19) ?_
        refine rg_put (d := 60) (v := .d (.fl undef)) rfl (ou rfl rfl rfl) ?_
        refine rg_put (d := 61) (v := .d (.fl undef)) rfl (ou rfl rfl rfl) ?_
        refine rg_put (d := 62) (v := .d (.fl undef)) rfl (ou rfl rfl rfl) ?_
        refine rg_put (d := 63) (v := .d (.fl undef)) rfl (ou rfl rfl rfl) ?_
        refine rg_put (d := 64) (v := .d (.fl undef)) rfl (on rfl rfl rfl h19) ?_
        refine rg_put (d := 65) (v := .d (.fl (.bool false))) rfl (oy rfl rfl rfl (show ((((bS W (mvN m i))).inn != ((bS W m).inn + 1))) = false from (bneE (by rw [mv_eq (by omega)]; show ((m + 1 : Nat) : Int) + 1 = ((m : Int) + 1) + 1; omega))) (op_pick rfl rfl (by rw [h19]; rfl) rfl)) ?_
        refine rg_put (d := 66) (v := .d (.fl (.bool false))) rfl (og rfl (op_pick rfl rfl (by rw [(show ((((bS W (mvN m i))).inn != ((bS W m).inn + 1))) = false from (bneE (by rw [mv_eq (by omega)]; show ((m + 1 : Nat) : Int) + 1 = ((m : Int) + 1) + 1; omega)))]; rfl) rfl)) ?_
        refine rg_done rfl ?_
        refine a_condF rfl rfl ?_
        refine a_skip ?_
        show A _ _ _ _ _ _ _
        refine a_rseq ?_
        refine rg_put (d := 67) (v := .d (.ag (ePt (((bS W (mvN m i))))))) rfl (og rfl (of_eff (s_load_pts rfl Try.underlying28 rfl ti28 rfl rfl rfl rfl) rfl)) ?_
        refine rg_sto (nw := [(0, .bx 28 ((ePt (((bS W (mvN m i)))))))]) rfl (og rfl (of_eff (s_store rfl rfl ti28 rfl rfl rfl rfl rfl rfl) rfl)) ?_
        refine rg_done rfl ?_
        refine a_rseq ?_
        refine rg_put (d := 4) (v := .d (.fl (.bool true))) rfl (og rfl (op_assign rfl rfl rfl)) ?_
        refine rg_done rfl ?_
        refine a_ret ?_
        show (∃ ds, ResL _ _ _ ds ∧ RV.of ds = _) ∧ _ ∧ _
        refine ⟨⟨[.fl (.bool true)], (.cons (.tmp rfl (.d _)) .nil), ?_⟩, (And.intro rfl (And.intro rfl trivial)), (And.intro rfl (And.intro rfl rfl))⟩
        rfl
      · skip
        have h21 := t_dec h19
        refine rg_put (d := 57) (v := .d (.fl (.int .i64 (eN m i)))) rfl (oy rfl rfl rfl h19 (op_move rfl rfl rfl)) ?_
        refine rg_put (d := 58) (v := .d (.fl (.bool (((eN m i) != 0))))) rfl (oy rfl rfl rfl h19 (op_bin rfl rfl rfl (b_neq _ _ _ _) rfl)) ?_
        refine rg_put (d := 59) (v := .d (.fl (.bool (((eN m i) != 0))))) rfl (oy rfl rfl rfl h19 (op_move rfl rfl rfl)) ?_
        refine rg_put (d := 60) (v := .pt 101 2) rfl (oy rfl rfl rfl (show (((eN m i) != 0)) = false from (by rw [eN_le (by omega)]; rfl)) (of_eff (s_field_pt rfl Try.underlying28 rfl ti3 rfl rfl rfl) rfl)) ?_
        refine rg_put (d := 61) (v := .d (.fl (.int .i64 (((bS W (mvN m i))).inn)))) rfl (oy rfl rfl rfl (show (((eN m i) != 0)) = false from (by rw [eN_le (by omega)]; rfl)) (op_load_pt rfl Try.underlying3 rfl rfl rfl rfl rfl)) ?_
        refine rg_put (d := 62) (v := .d (.fl (.int .i64 ((bS W m).inn)))) rfl (oy rfl rfl rfl (show (((eN m i) != 0)) = false from (by rw [eN_le (by omega)]; rfl)) (op_move rfl rfl rfl)) ?_
        refine rg_put (d := 63) (v := .d (.fl (.bool ((((bS W (mvN m i))).inn != (bS W m).inn))))) rfl (oy rfl rfl rfl (show (((eN m i) != 0)) = false from (by rw [eN_le (by omega)]; rfl)) (op_bin rfl rfl rfl (b_neq _ _ _ _) rfl)) ?_
        refine rg_put (d := 64) (v := .d (.fl (.bool ((((bS W (mvN m i))).inn != (bS W m).inn))))) rfl (oy rfl rfl rfl h19 (op_pick rfl rfl (by rw [(show (((eN m i) != 0)) = false from (by rw [eN_le (by omega)]; rfl))]; rfl) rfl)) ?_
        refine rg_put (d := 65) (v := .d (.fl (.bool ((((bS W (mvN m i))).inn != (bS W m).inn))))) rfl (oy rfl rfl rfl (show ((((bS W (mvN m i))).inn != ((bS W m).inn + 1))) = false from (bneE (by rw [mv_eq (by omega)]; show ((m + 1 : Nat) : Int) + 1 = ((m : Int) + 1) + 1; omega))) (op_pick rfl rfl (by rw [h19]; rfl) rfl)) ?_
        refine rg_put (d := 66) (v := .d (.fl (.bool ((((bS W (mvN m i))).inn != (bS W m).inn))))) rfl (og rfl (op_pick rfl rfl (by rw [(show ((((bS W (mvN m i))).inn != ((bS W m).inn + 1))) = false from (bneE (by rw [mv_eq (by omega)]; show ((m + 1 : Nat) : Int) + 1 = ((m : Int) + 1) + 1; omega)))]; rfl) rfl)) ?_
        refine rg_done rfl ?_
        refine a_condF rfl (show ((((bS W (mvN m i))).inn != (bS W m).inn)) = false from (bneE (by rw [mv_ne (by omega)]))) ?_
        refine a_skip ?_
        show A _ _ _ _ _ _ _
        refine a_rseq ?_
        refine rg_put (d := 67) (v := .d (.ag (ePt (((bS W (mvN m i))))))) rfl (og rfl (of_eff (s_load_pts rfl Try.underlying28 rfl ti28 rfl rfl rfl rfl) rfl)) ?_
        refine rg_sto (nw := [(0, .bx 28 ((ePt (((bS W (mvN m i)))))))]) rfl (og rfl (of_eff (s_store rfl rfl ti28 rfl rfl rfl rfl rfl rfl) rfl)) ?_
        refine rg_done rfl ?_
        refine a_rseq ?_
        refine rg_put (d := 4) (v := .d (.fl (.bool true))) rfl (og rfl (op_assign rfl rfl rfl)) ?_
        refine rg_done rfl ?_
        refine a_ret ?_
        show (∃ ds, ResL _ _ _ ds ∧ RV.of ds = _) ∧ _ ∧ _
        refine ⟨⟨[.fl (.bool true)], (.cons (.tmp rfl (.d _)) .nil), ?_⟩, (And.intro rfl (And.intro rfl trivial)), (And.intro rfl (And.intro rfl rfl))⟩
        rfl
theorem sb_ok : Nm.nmB (⟨#[115, 111, 117, 116, 104]⟩ : ByteArray) = true := by
  refine Nm.nmB_yes ⟨by decide, by decide, fun i hi => ?_⟩
  have hi : i < 5 := hi
  have key : ∀ j : Fin 5, (97 ≤ Nm.bt (⟨#[115, 111, 117, 116, 104]⟩ : ByteArray) j.val ∧ Nm.bt (⟨#[115, 111, 117, 116, 104]⟩ : ByteArray) j.val ≤ 122) := by decide
  exact .inl (key ⟨i, hi⟩)

set_option maxHeartbeats 4000000 in
set_option maxRecDepth 100000 in
theorem law1 (ls : List (List Rec)) (os : List Int) (hu : ∀ x ∈ os, 0 ≤ x ∧ x ≤ 255) : Ctr Try.prog 3 [.sl 1 (List.map (rL 5 eRec) ls), .sl 1 (List.map (rI .u8) os)] (.d (.fl (.bool (true)))) := by
  refine ctr (n := 129) (rs := #[.tmp 4]) (L := [(0, .d (.sl 1 (List.map (rL 5 eRec) ls))), (1, .d (.sl 1 (List.map (rI .u8) os)))]) Try.func3 rfl rfl rfl rfl rfl (fun w0 U0 => ?_)
  refine a_rseq ?_
  refine rg_put (d := 4) (v := .d (.fl (.bool false))) rfl (og rfl (op_assign rfl rfl rfl)) ?_
  refine rg_done rfl ?_
  refine a_seq ?_
  refine a_rseq ?_
  refine rg_put (d := 18) (v := .d (.sl 1 (List.map (rL 5 eRec) ls))) rfl (og rfl (op_move rfl rfl rfl)) ?_
  refine rg_put (d := 19) (v := .d (.fl (.int .i64 (ls.length : Int)))) rfl (og rfl (s_len rfl Try.underlying22 rfl rfl)) ?_
  refine rg_put (d := 20) (v := .d (.fl (.bool ((decide (10 < (ls.length : Int))))))) rfl (og rfl (op_bin rfl rfl rfl (b_gtr _ _ _ _) rfl)) ?_
  refine rg_put (d := 21) (v := .d (.fl (.bool ((decide (10 < (ls.length : Int))))))) rfl (og rfl (op_move rfl rfl rfl)) ?_
  rcases fot ((decide (10 < (ls.length : Int)))) with h1 | h1
  · skip
    have h2 := f_dec h1
    refine rg_put (d := 22) (v := .d (.sl 1 (List.map (rI .u8) os))) rfl (oy rfl rfl rfl h1 (op_move rfl rfl rfl)) ?_
    refine rg_put (d := 23) (v := .d (.fl (.int .i64 (os.length : Int)))) rfl (oy rfl rfl rfl h1 (s_len rfl Try.underlying23 rfl rfl)) ?_
    refine rg_put (d := 24) (v := .d (.fl (.bool ((decide (60 < (os.length : Int))))))) rfl (oy rfl rfl rfl h1 (op_bin rfl rfl rfl (b_gtr _ _ _ _) rfl)) ?_
    refine rg_put (d := 25) (v := .d (.fl (.bool ((decide (60 < (os.length : Int))))))) rfl (og rfl (op_pick rfl rfl (by rw [h1]; rfl) rfl)) ?_
    refine rg_done rfl ?_
    refine a_cond rfl (fun h3 => ?_) (fun h3 => ?_)
    · skip
      have h4 := t_dec h3
      refine a_rseq ?_
      refine rg_put (d := 26) (v := .d (.fl (.bool true))) rfl (og rfl (op_call rfl Try.func4 nm4 rfl .nil alive4 rfl)) ?_
      refine rg_put (d := 4) (v := .d (.fl (.bool true))) rfl (og rfl (op_assign rfl rfl rfl)) ?_
      refine rg_done rfl ?_
      refine a_ret ?_
      show ∃ ds, ResL _ _ _ ds ∧ RV.of ds = _
      refine ⟨[.fl (.bool true)], (.cons (.tmp rfl (.d _)) .nil), ?_⟩
      rfl
    · skip
      have h5 := f_dec h3
      refine a_skip ?_
      show A _ _ _ _ _ _ _
      refine a_rseq ?_
      refine rg_put (d := 28) (v := .tu [.ag (ePt (pS ls 0)), .fl (.int .i64 0)]) rfl (og rfl (op_call rfl Try.func5 nm5 rfl (.cons rfl (.d _) .nil) ((by have h := nwC (⟨#[110, 111, 114, 116, 104]⟩ : ByteArray); rw [(nw_t nb_ok).1, (nw_t nb_ok).2] at h; exact h)) rfl)) ?_
      refine rg_put (d := 27) (v := .tu [.ag (ePt (pS ls 0)), .fl (.int .i64 0)]) rfl (og rfl (op_move rfl rfl rfl)) ?_
      refine rg_put (d := 29) (v := .d (.ag (ePt (pS ls 0)))) rfl (og rfl (op_extract rfl rfl rfl rfl)) ?_
      refine rg_put (d := 30) (v := .d (.fl (.int .i64 0))) rfl (og rfl (op_extract rfl rfl rfl rfl)) ?_
      refine rg_nam (d := 5) (v := .pt 101 0) (m := 101) (nw := [(101, .bx 28 ([.fl (.string (⟨#[]⟩)), .fl (.int .i64 0), .fl (.int .i64 0), .fl (.slice none 0 0), .fl (.slice none 0 0), .fl (.slice none 0 0)]))]) rfl (og rfl (of_eff (s_alloc 101 rfl ti28 (by kernel_rfl) rfl) rfl)) rfl ?_
      refine rg_sto (nw := [(101, .bx 28 ((ePt (pS ls 0))))]) rfl (og rfl (of_eff (s_store rfl rfl ti28 rfl rfl rfl rfl rfl rfl) rfl)) ?_
      refine rg_put (d := 6) (v := .d (.fl (.int .i64 0))) rfl (og rfl (op_assign rfl rfl rfl)) ?_
      refine rg_done rfl ?_
      refine a_rseq ?_
      refine rg_put (d := 32) (v := .tu [.ag (ePt ((bS (pS ls ls.length).wait 0))), .fl (.int .i64 0)]) rfl (og rfl (op_call rfl Try.func5 nm5 rfl (.cons rfl (.d _) .nil) ((by have h := nwC (⟨#[115, 111, 117, 116, 104]⟩ : ByteArray); rw [(nw_t sb_ok).1, (nw_t sb_ok).2] at h; exact h)) rfl)) ?_
      refine rg_put (d := 31) (v := .tu [.ag (ePt ((bS (pS ls ls.length).wait 0))), .fl (.int .i64 0)]) rfl (og rfl (op_move rfl rfl rfl)) ?_
      refine rg_put (d := 33) (v := .d (.ag (ePt ((bS (pS ls ls.length).wait 0))))) rfl (og rfl (op_extract rfl rfl rfl rfl)) ?_
      refine rg_put (d := 34) (v := .d (.fl (.int .i64 0))) rfl (og rfl (op_extract rfl rfl rfl rfl)) ?_
      refine rg_nam (d := 7) (v := .pt 102 0) (m := 102) (nw := [(102, .bx 28 ([.fl (.string (⟨#[]⟩)), .fl (.int .i64 0), .fl (.int .i64 0), .fl (.slice none 0 0), .fl (.slice none 0 0), .fl (.slice none 0 0)]))]) rfl (og rfl (of_eff (s_alloc 102 rfl ti28 (by kernel_rfl) rfl) rfl)) rfl ?_
      refine rg_sto (nw := [(102, .bx 28 ((ePt ((bS (pS ls ls.length).wait 0)))))]) rfl (og rfl (of_eff (s_store rfl rfl ti28 rfl rfl rfl rfl rfl rfl) rfl)) ?_
      refine rg_put (d := 8) (v := .d (.fl (.int .i64 0))) rfl (og rfl (op_assign rfl rfl rfl)) ?_
      refine rg_done rfl ?_
      refine a_seq ?_
      refine a_rseq ?_
      refine rg_put (d := 35) (v := .d (.fl (.int .i64 0))) rfl (og rfl (op_move rfl rfl rfl)) ?_
      refine rg_put (d := 36) (v := .d (.fl (.bool (0 != 0)))) rfl (og rfl (op_bin rfl rfl rfl (b_neq _ _ _ _) rfl)) ?_
      refine rg_put (d := 37) (v := .d (.fl (.bool (0 != 0)))) rfl (og rfl (op_move rfl rfl rfl)) ?_
      refine rg_put (d := 38) (v := .d (.fl (.int .i64 0))) rfl (oy rfl rfl rfl (show ((0 : Int) != 0) = false from rfl) (op_move rfl rfl rfl)) ?_
      refine rg_put (d := 39) (v := .d (.fl (.bool (0 != 0)))) rfl (oy rfl rfl rfl (show ((0 : Int) != 0) = false from rfl) (op_bin rfl rfl rfl (b_neq _ _ _ _) rfl)) ?_
      refine rg_put (d := 40) (v := .d (.fl (.bool (0 != 0)))) rfl (og rfl (op_pick rfl rfl (by rw [(show ((0 : Int) != 0) = false from rfl)]; rfl) rfl)) ?_
      refine rg_done rfl ?_
      refine a_condF rfl (show ((0 : Int) != 0) = false from rfl) ?_
      refine a_skip ?_
      show A _ _ _ _ _ _ _
      refine a_rseq ?_
      refine rg_nam (d := 9) (v := .pt 103 0) (m := 103) (nw := [(103, .bx 25 [.fl (.slice none 0 0)])]) rfl (og rfl (of_eff (s_alloc 103 rfl ti25 (by kernel_rfl) rfl) rfl)) rfl ?_
      refine rg_done rfl ?_
      refine a_seq ?_
      refine a_rseq ?_
      refine rg_imp (imp_bt 103 rfl) ?_
      refine rg_imp (imp_btnil 103 0 34 4 rfl rfl) ?_
      refine rg_put (d := 41) (v := .d (.sl 1 (List.map (rL 5 eRec) ls))) rfl (og rfl (op_move rfl rfl rfl)) ?_
      refine rg_put (d := 42) (v := .d (.fl (.int .i64 (ls.length : Int)))) rfl (og rfl (s_len rfl Try.underlying22 rfl rfl)) ?_
      refine rg_put (d := 43) (v := .d (.fl (.int .i64 0))) rfl (og rfl (op_move rfl rfl rfl)) ?_
      refine rg_done rfl ?_
      refine a_block ?_
      refine a_loop (ι := Nat) (fun k => SS [(0, .d (.sl 1 (List.map (rL 5 eRec) ls))), (1, .d (.sl 1 (List.map (rI .u8) os))), (5, .pt 101 0), (6, .d (.fl (.int .i64 0))), (7, .pt 102 0), (8, .d (.fl (.int .i64 0))), (9, .pt 103 0), (25, .d (.fl (.bool ((decide (60 < (os.length : Int))))))), (40, .d (.fl (.bool (0 != 0)))), (41, .d (.sl 1 (List.map (rL 5 eRec) ls))), (42, .d (.fl (.int .i64 (ls.length : Int)))), (43, .d (.fl (.int .i64 (k : Int))))] [(102, .bx 28 ((ePt ((bS (pS ls ls.length).wait 0))))), (101, .bx 28 ((ePt (pS ls k)))), (103, .bt 25 [.ow 34 4 (List.map eFil ((pS ls k).wait))])]) (fun k => k ≤ ls.length ∧ I1 (pS ls k) k ∧ I3 (pS ls k)) (fun k => ls.length - k) 0 (⟨by omega, i1_0 ls, i3_0 ls⟩) (imp_forget rfl ⟨rfl, rfl, rfl, rfl, rfl, rfl, rfl, rfl, rfl, rfl, rfl, (by first | rfl | exact ci (by omega) | exact ci (by simp) | exact cd (by simp) | simp), trivial⟩ ⟨rfl, rfl, rfl, trivial⟩) (fun k hok => ?_)
      obtain ⟨hk, hi, hi3⟩ := hok
      have hwl := hi.wl
      refine a_rseq ?_
      refine rg_put (d := 44) (v := .d (.fl (.bool ((decide ((k : Int) < (ls.length : Int))))))) rfl (og rfl (op_bin rfl rfl rfl (b_lss _ _ _ _) rfl)) ?_
      refine rg_done rfl ?_
      refine a_seq ?_
      refine a_cond rfl (fun h6 => ?_) (fun h6 => ?_)
      · skip
        have h7 := t_dec h6
        refine a_skip ?_
        show A _ _ _ _ _ _ _
        refine a_seq ?_
        refine a_block ?_
        refine a_rseq ?_
        refine rg_put (d := 45) (v := .el (((rL 5 eRec) (ix ls k)))) rfl (og rfl (s_index rfl Try.underlying22 ti26 rfl rfl (by omega) (row_at (by omega)) rfl)) ?_
        refine rg_put (d := 46) (v := .d (.sl 5 (List.map eRec (ix ls k)))) rfl (og rfl (op_load_el rfl Try.underlying26 rfl rfl rfl rfl)) ?_
        refine rg_put (d := 11) (v := .d (.sl 5 (List.map eRec (ix ls k)))) rfl (og rfl (op_assign rfl rfl rfl)) ?_
        refine rg_done rfl ?_
        refine a_seq ?_
        refine a_rseq ?_
        refine rg_put (d := 47) (v := .d (.sl 5 (List.map eRec (ix ls k)))) rfl (og rfl (op_move rfl rfl rfl)) ?_
        refine rg_put (d := 48) (v := .d (.fl (.int .i64 (((ix ls k).length : Int))))) rfl (og rfl (s_len rfl Try.underlying26 rfl rfl)) ?_
        refine rg_put (d := 49) (v := .d (.fl (.bool ((decide (20 < ((ix ls k).length : Int))))))) rfl (og rfl (op_bin rfl rfl rfl (b_gtr _ _ _ _) rfl)) ?_
        refine rg_put (d := 50) (v := .d (.fl (.bool ((decide (20 < ((ix ls k).length : Int))))))) rfl (og rfl (op_move rfl rfl rfl)) ?_
        rcases fot ((decide (20 < ((ix ls k).length : Int)))) with h8 | h8
        · skip
          have h9 := f_dec h8
          refine rg_put (d := 51) (v := .d (.sl 5 (List.map eRec (ix ls k)))) rfl (oy rfl rfl rfl h8 (op_move rfl rfl rfl)) ?_
          refine rg_put (d := 52) (v := .d (.fl (.bool ((hvB (ix ls k)))))) rfl (oy rfl rfl rfl h8 (op_call rfl Try.func6 nm6 rfl (.cons rfl (.d _) .nil) (hvC (ix ls k)) rfl)) ?_
          refine rg_put (d := 53) (v := .d (.fl (.bool ((hvB (ix ls k)))))) rfl (og rfl (op_pick rfl rfl (by rw [h8]; rfl) rfl)) ?_
          refine rg_done rfl ?_
          refine a_cond rfl (fun h10 => ?_) (fun h10 => ?_)
          · skip
            refine a_rseq ?_
            refine rg_put (d := 54) (v := .d (.fl (.bool true))) rfl (og rfl (op_call rfl Try.func4 nm4 rfl .nil alive4 rfl)) ?_
            refine rg_put (d := 4) (v := .d (.fl (.bool true))) rfl (og rfl (op_assign rfl rfl rfl)) ?_
            refine rg_done rfl ?_
            refine a_ret ?_
            show ∃ ds, ResL _ _ _ ds ∧ RV.of ds = _
            refine ⟨[.fl (.bool true)], (.cons (.tmp rfl (.d _)) .nil), ?_⟩
            rfl
          · skip
            refine a_skip ?_
            show A _ _ _ _ _ _ _
            refine a_rseq ?_
            have hkl := hv_k h10
            refine rg_nam (d := 12) (v := .pt 104 0) (m := 104) (nw := [(104, .bx 34 ([.fl (.string (⟨#[]⟩)), .fl (.string (⟨#[]⟩)), .fl (.int .i64 0), .fl (.slice none 0 0)]))]) rfl (og rfl (of_eff (s_alloc 104 rfl ti34 (by kernel_rfl) rfl) rfl)) rfl ?_
            refine rg_done rfl ?_
            refine a_rseq ?_
            refine rg_put (d := 13) (v := .d (.fl (.int .i64 0))) rfl (og rfl (op_assign rfl rfl rfl)) ?_
            refine rg_done rfl ?_
            refine a_rseq ?_
            refine rg_put (d := 56) (v := .d (.ag (ePt (pS ls k)))) rfl (og rfl (of_eff (s_load_pts rfl Try.underlying28 rfl ti28 rfl rfl rfl rfl) rfl)) ?_
            refine rg_put (d := 57) (v := .d (.sl 5 (List.map eRec (ix ls k)))) rfl (og rfl (op_move rfl rfl rfl)) ?_
            refine rg_put (d := 58) (v := .tu [.ag (ePt ((sdP (pS ls k) (⟨#[115, 111, 117, 116, 104]⟩ : ByteArray) (ix ls k)))), .ag (eFil ((sdF (pS ls k) (⟨#[115, 111, 117, 116, 104]⟩ : ByteArray) (ix ls k)))), .fl (.int .i64 ((sdE (pS ls k) (⟨#[115, 111, 117, 116, 104]⟩ : ByteArray) (ix ls k))))]) rfl (og rfl (op_call rfl Try.func7 nm7 rfl (.cons rfl (.d _) (.cons rfl (.d _) (.cons rfl (.d _) .nil))) (sdC (pS ls k) (⟨#[115, 111, 117, 116, 104]⟩ : ByteArray) (ix ls k) (i1_ok hi (by omega)) hkl (by omega)) rfl)) ?_
            refine rg_put (d := 55) (v := .tu [.ag (ePt ((sdP (pS ls k) (⟨#[115, 111, 117, 116, 104]⟩ : ByteArray) (ix ls k)))), .ag (eFil ((sdF (pS ls k) (⟨#[115, 111, 117, 116, 104]⟩ : ByteArray) (ix ls k)))), .fl (.int .i64 ((sdE (pS ls k) (⟨#[115, 111, 117, 116, 104]⟩ : ByteArray) (ix ls k))))]) rfl (og rfl (op_move rfl rfl rfl)) ?_
            refine rg_put (d := 59) (v := .d (.ag (ePt ((sdP (pS ls k) (⟨#[115, 111, 117, 116, 104]⟩ : ByteArray) (ix ls k)))))) rfl (og rfl (op_extract rfl rfl rfl rfl)) ?_
            refine rg_put (d := 60) (v := .d (.ag (eFil ((sdF (pS ls k) (⟨#[115, 111, 117, 116, 104]⟩ : ByteArray) (ix ls k)))))) rfl (og rfl (op_extract rfl rfl rfl rfl)) ?_
            refine rg_put (d := 61) (v := .d (.fl (.int .i64 ((sdE (pS ls k) (⟨#[115, 111, 117, 116, 104]⟩ : ByteArray) (ix ls k)))))) rfl (og rfl (op_extract rfl rfl rfl rfl)) ?_
            refine rg_sto (nw := [(101, .bx 28 ((ePt ((sdP (pS ls k) (⟨#[115, 111, 117, 116, 104]⟩ : ByteArray) (ix ls k))))))]) rfl (og rfl (of_eff (s_store rfl rfl ti28 rfl rfl rfl rfl rfl rfl) rfl)) ?_
            refine rg_sto (nw := [(104, .bx 34 ((eFil ((sdF (pS ls k) (⟨#[115, 111, 117, 116, 104]⟩ : ByteArray) (ix ls k))))))]) rfl (og rfl (of_eff (s_store rfl rfl ti34 rfl rfl rfl rfl rfl rfl) rfl)) ?_
            refine rg_put (d := 13) (v := .d (.fl (.int .i64 ((sdE (pS ls k) (⟨#[115, 111, 117, 116, 104]⟩ : ByteArray) (ix ls k)))))) rfl (og rfl (op_assign rfl rfl rfl)) ?_
            refine rg_done rfl ?_
            refine a_rseq ?_
            refine rg_put (d := 62) (v := .d (.fl (.int .i64 ((sdE (pS ls k) (⟨#[115, 111, 117, 116, 104]⟩ : ByteArray) (ix ls k)))))) rfl (og rfl (op_move rfl rfl rfl)) ?_
            refine rg_put (d := 63) (v := .d (.fl (.bool (((sdE (pS ls k) (⟨#[115, 111, 117, 116, 104]⟩ : ByteArray) (ix ls k)) == 0))))) rfl (og rfl (op_bin rfl rfl rfl (b_eql _ _ _ _) rfl)) ?_
            refine rg_done rfl ?_
            refine a_cond rfl (fun h11 => ?_) (fun h11 => ?_)
            · skip
              have h12 := t_beq h11
              refine a_region ?_
              refine rg_nam (d := 64) (v := .ow 105) (m := 105) (nw := [(105, .tr 34 4 (tD eFil ((pS ls k).wait))), (103, .bt 25 [.un])]) rfl (og rfl (of_eff (op_takeBt 105 rfl Try.underlying25 rfl rfl rfl rfl rfl rfl) rfl)) rfl ?_
              refine rg_put (d := 65) (v := .d (.ag (eFil (((sdF (pS ls k) (⟨#[115, 111, 117, 116, 104]⟩ : ByteArray) (ix ls k))))))) rfl (og rfl (of_eff (s_load_pts rfl Try.underlying34 rfl ti34 rfl rfl rfl rfl) rfl)) ?_
              refine rg_put (d := 66) (v := .d (.sl 4 (List.map eFil ([((sdF (pS ls k) (⟨#[115, 111, 117, 116, 104]⟩ : ByteArray) (ix ls k)))])))) rfl (og rfl (of_eff (op_slices rfl Try.underlying25 ti34 rfl rfl rfl (by kernel_rfl) (xs := [.ag (eFil (((sdF (pS ls k) (⟨#[115, 111, 117, 116, 104]⟩ : ByteArray) (ix ls k)))))]) rfl rfl (.cons rfl rfl (.d _) rfl rfl rfl .nil) rfl) rfl)) ?_
              refine rg_nam (d := 67) (v := .ow 106) (m := 106) (nw := [(106, .tr 34 4 (tD eFil (((pS ls k).wait ++ [((sdF (pS ls k) (⟨#[115, 111, 117, 116, 104]⟩ : ByteArray) (ix ls k)))])))), (105, .no)]) rfl (og rfl (of_eff (s_append_td 106 rfl Try.underlying25 ti34 rfl rfl rfl rfl rfl (.d _) (by first | omega | (simp only [List.length_append, List.length_cons, List.length_nil]; omega) | (simp only [List.length_take, List.length_drop]; omega)) rfl) rfl)) rfl ?_
              refine rg_sto (nw := [(103, .bt 25 [.ow 34 4 (List.map eFil (((pS ls k).wait ++ [((sdF (pS ls k) (⟨#[115, 111, 117, 116, 104]⟩ : ByteArray) (ix ls k)))])))]), (106, .no)]) rfl (og rfl (of_eff (op_store_bt rfl rfl ti25 rfl rfl rfl (.tr rfl) rfl rfl rfl) rfl)) ?_
              refine rg_done rfl ?_
              show A _ _ _ _ _ _ _
              refine a_region ?_
              refine rg_put (d := 68) (v := .d (.fl (.int .i64 (((k : Int) + 1))))) rfl (og rfl (op_bin rfl rfl rfl (fun x y w => b_add64 _ _ _ x y w (by omega)) rfl)) ?_
              refine rg_put (d := 43) (v := .d (.fl (.int .i64 (((k : Int) + 1))))) rfl (og rfl (op_move rfl rfl rfl)) ?_
              refine rg_done rfl ?_
              show ∃ i, _ ∧ _ ∧ Imp _ _ _ _ _
              refine ⟨k + 1, ⟨by omega, i1_step hi (by omega), i3_step hi3 hkl⟩, by omega, imp_forget rfl ⟨rfl, rfl, rfl, rfl, rfl, rfl, rfl, rfl, rfl, rfl, rfl, (by first | rfl | exact ci (by omega) | exact ci (by simp) | exact cd (by simp) | simp), trivial⟩ ⟨rfl, rfl, (congrArg (fun z => Ob.bt 25 [OC.ow 34 4 (List.map eFil z)]) (sd_yes h11).symm), trivial⟩⟩
            · skip
              have h13 := f_beq h11
              refine a_skip ?_
              show A _ _ _ _ _ _ _
              refine a_region ?_
              refine rg_put (d := 68) (v := .d (.fl (.int .i64 (((k : Int) + 1))))) rfl (og rfl (op_bin rfl rfl rfl (fun x y w => b_add64 _ _ _ x y w (by omega)) rfl)) ?_
              refine rg_put (d := 43) (v := .d (.fl (.int .i64 (((k : Int) + 1))))) rfl (og rfl (op_move rfl rfl rfl)) ?_
              refine rg_done rfl ?_
              show ∃ i, _ ∧ _ ∧ Imp _ _ _ _ _
              refine ⟨k + 1, ⟨by omega, i1_step hi (by omega), i3_step hi3 hkl⟩, by omega, imp_forget rfl ⟨rfl, rfl, rfl, rfl, rfl, rfl, rfl, rfl, rfl, rfl, rfl, (by first | rfl | exact ci (by omega) | exact ci (by simp) | exact cd (by simp) | simp), trivial⟩ ⟨rfl, rfl, (congrArg (fun z => Ob.bt 25 [OC.ow 34 4 (List.map eFil z)]) (sd_no h11).symm), trivial⟩⟩
        · skip
          have h14 := t_dec h8
          refine rg_put (d := 51) (v := .d (.fl undef)) rfl (on rfl rfl rfl h8) ?_
          refine rg_put (d := 52) (v := .d (.fl undef)) rfl (on rfl rfl rfl h8) ?_
          refine rg_put (d := 53) (v := .d (.fl (.bool true))) rfl (og rfl (op_pick rfl rfl (by rw [h8]; rfl) rfl)) ?_
          refine rg_done rfl ?_
          refine a_condK rfl rfl ?_
          refine a_rseq ?_
          refine rg_put (d := 54) (v := .d (.fl (.bool true))) rfl (og rfl (op_call rfl Try.func4 nm4 rfl .nil alive4 rfl)) ?_
          refine rg_put (d := 4) (v := .d (.fl (.bool true))) rfl (og rfl (op_assign rfl rfl rfl)) ?_
          refine rg_done rfl ?_
          refine a_ret ?_
          show ∃ ds, ResL _ _ _ ds ∧ RV.of ds = _
          refine ⟨[.fl (.bool true)], (.cons (.tmp rfl (.d _)) .nil), ?_⟩
          rfl
      · skip
        have h15 := f_dec h6
        refine a_exit ?_
        show A _ _ _ _ _ _ _
        refine a_seq ?_
        refine a_rseq ?_
        have hkl0 : k = ls.length := by omega
        have hi0 : I1 (pS ls ls.length) ls.length := by rw [hkl0] at hi; exact hi
        have h30 : I3 (pS ls ls.length) := by rw [hkl0] at hi3; exact hi3
        rw [show (pS ls k) = (pS ls ls.length) from (by rw [hkl0])]
        refine rg_imp (imp_leakBt 103 (ds := [.sl 4 (List.map eFil ((pS ls ls.length).wait))]) rfl rfl rfl) ?_
        have hw : Wk (pS ls ls.length).wait := wk_of hi0 h30 (by omega)
        have hwn := hw.n
        refine rg_put (d := 69) (v := .pt 101 1) rfl (og rfl (of_eff (s_field_pt rfl Try.underlying28 rfl ti3 rfl rfl rfl) rfl)) ?_
        refine rg_put (d := 70) (v := .d (.fl (.int .i64 ((pS ls ls.length).out)))) rfl (og rfl (op_load_pt rfl Try.underlying3 rfl rfl rfl rfl rfl)) ?_
        refine rg_put (d := 71) (v := .d (.sl 4 (List.map eFil ((pS ls ls.length).wait)))) rfl (og rfl (op_load_pt rfl Try.underlying25 rfl rfl rfl rfl rfl)) ?_
        refine rg_put (d := 72) (v := .d (.fl (.int .i64 ((((pS ls ls.length).wait).length : Int))))) rfl (og rfl (s_len rfl Try.underlying25 rfl rfl)) ?_
        refine rg_put (d := 73) (v := .d (.fl (.int .i64 (((((pS ls ls.length).wait).length : Int) + 1))))) rfl (og rfl (op_bin rfl rfl rfl (fun x y w => b_add64 _ _ _ x y w (by omega)) rfl)) ?_
        refine rg_put (d := 74) (v := .d (.fl (.bool (((pS ls ls.length).out != ((((pS ls ls.length).wait).length : Int) + 1)))))) rfl (og rfl (op_bin rfl rfl rfl (b_neq _ _ _ _) rfl)) ?_
        refine rg_put (d := 75) (v := .d (.fl (.bool (((pS ls ls.length).out != ((((pS ls ls.length).wait).length : Int) + 1)))))) rfl (og rfl (op_move rfl rfl rfl)) ?_
        refine rg_put (d := 76) (v := .pt 101 3) rfl (oy rfl rfl rfl (show (((pS ls ls.length).out != ((((pS ls ls.length).wait).length : Int) + 1))) = false from (bneE hi0.out)) (of_eff (s_field_pt rfl Try.underlying28 rfl ti25 rfl rfl rfl) rfl)) ?_
        refine rg_put (d := 77) (v := .d (.sl 4 (List.map eFil ((pS ls ls.length).wait)))) rfl (oy rfl rfl rfl (show (((pS ls ls.length).out != ((((pS ls ls.length).wait).length : Int) + 1))) = false from (bneE hi0.out)) (op_load_pt rfl Try.underlying25 rfl rfl rfl rfl rfl)) ?_
        refine rg_put (d := 78) (v := .d (.fl (.int .i64 ((((pS ls ls.length).wait).length : Int))))) rfl (oy rfl rfl rfl (show (((pS ls ls.length).out != ((((pS ls ls.length).wait).length : Int) + 1))) = false from (bneE hi0.out)) (s_len rfl Try.underlying25 rfl rfl)) ?_
        refine rg_put (d := 79) (v := .d (.sl 4 (List.map eFil ((pS ls ls.length).wait)))) rfl (oy rfl rfl rfl (show (((pS ls ls.length).out != ((((pS ls ls.length).wait).length : Int) + 1))) = false from (bneE hi0.out)) (op_load_pt rfl Try.underlying25 rfl rfl rfl rfl rfl)) ?_
        refine rg_put (d := 80) (v := .d (.fl (.int .i64 ((((pS ls ls.length).wait).length : Int))))) rfl (oy rfl rfl rfl (show (((pS ls ls.length).out != ((((pS ls ls.length).wait).length : Int) + 1))) = false from (bneE hi0.out)) (s_len rfl Try.underlying25 rfl rfl)) ?_
        refine rg_put (d := 81) (v := .d (.fl (.bool (((((pS ls ls.length).wait).length : Int) != (((pS ls ls.length).wait).length : Int)))))) rfl (oy rfl rfl rfl (show (((pS ls ls.length).out != ((((pS ls ls.length).wait).length : Int) + 1))) = false from (bneE hi0.out)) (op_bin rfl rfl rfl (b_neq _ _ _ _) rfl)) ?_
        refine rg_put (d := 82) (v := .d (.fl (.bool (((((pS ls ls.length).wait).length : Int) != (((pS ls ls.length).wait).length : Int)))))) rfl (og rfl (op_pick rfl rfl (by rw [(show (((pS ls ls.length).out != ((((pS ls ls.length).wait).length : Int) + 1))) = false from (bneE hi0.out))]; rfl) rfl)) ?_
        refine rg_done rfl ?_
        refine a_condF rfl (show (((((pS ls ls.length).wait).length : Int) != (((pS ls ls.length).wait).length : Int))) = false from (bneE rfl)) ?_
        refine a_skip ?_
        show A _ _ _ _ _ _ _
        refine a_rseq ?_
        refine rg_put (d := 83) (v := .cl 8 [.p 102, .p 103]) rfl (og rfl (op_mkcl rfl (.p rfl (.p rfl .nil)) rfl)) ?_
        refine rg_put (d := 14) (v := .cl 8 [.p 102, .p 103]) rfl (og rfl (op_assign rfl rfl rfl)) ?_
        refine rg_done rfl ?_
        refine a_seq ?_
        refine a_rseq ?_
        refine rg_put (d := 84) (v := .d (.sl 1 (List.map (rI .u8) os))) rfl (og rfl (op_move rfl rfl rfl)) ?_
        refine rg_put (d := 85) (v := .d (.fl (.int .i64 (os.length : Int)))) rfl (og rfl (s_len rfl Try.underlying23 rfl rfl)) ?_
        refine rg_put (d := 86) (v := .d (.fl (.int .i64 0))) rfl (og rfl (op_move rfl rfl rfl)) ?_
        refine rg_done rfl ?_
        refine a_block ?_
        refine a_loop (ι := Nat) (fun j => SS [(0, .d (.sl 1 (List.map (rL 5 eRec) ls))), (1, .d (.sl 1 (List.map (rI .u8) os))), (5, .pt 101 0), (6, .d (.fl (.int .i64 0))), (7, .pt 102 0), (8, .d (.fl (.int .i64 0))), (9, .pt 103 0), (14, .cl 8 [.p 102, .p 103]), (25, .d (.fl (.bool ((decide (60 < (os.length : Int))))))), (40, .d (.fl (.bool (0 != 0)))), (41, .d (.sl 1 (List.map (rL 5 eRec) ls))), (42, .d (.fl (.int .i64 (ls.length : Int)))), (43, .d (.fl (.int .i64 (k : Int)))), (44, .d (.fl (.bool ((decide ((k : Int) < (ls.length : Int))))))), (82, .d (.fl (.bool (((((pS ls ls.length).wait).length : Int) != (((pS ls ls.length).wait).length : Int)))))), (84, .d (.sl 1 (List.map (rI .u8) os))), (85, .d (.fl (.int .i64 (os.length : Int)))), (86, .d (.fl (.int .i64 (j : Int))))] [(101, .bx 28 ((ePt (pS ls ls.length)))), (103, .bx 25 [.sl 4 (List.map eFil ((pS ls ls.length).wait))]), (102, .bx 28 ((ePt (bS (pS ls ls.length).wait (mS (pS ls ls.length).wait.length os j)))))]) (fun j => j ≤ os.length) (fun j => os.length - j) 0 (by omega) (imp_forget rfl ⟨rfl, rfl, rfl, rfl, rfl, rfl, rfl, rfl, rfl, rfl, rfl, rfl, rfl, rfl, rfl, rfl, rfl, (by first | rfl | exact ci (by omega) | exact ci (by simp) | exact cd (by simp) | simp), trivial⟩ ⟨rfl, rfl, rfl, trivial⟩) (fun j hok => ?_)
        have hj := hok
        have hub := hu (ix os j)
        refine a_rseq ?_
        refine rg_put (d := 87) (v := .d (.fl (.bool ((decide ((j : Int) < (os.length : Int))))))) rfl (og rfl (op_bin rfl rfl rfl (b_lss _ _ _ _) rfl)) ?_
        refine rg_done rfl ?_
        refine a_seq ?_
        refine a_cond rfl (fun h16 => ?_) (fun h16 => ?_)
        · skip
          have h17 := t_dec h16
          refine a_skip ?_
          show A _ _ _ _ _ _ _
          refine a_seq ?_
          refine a_block ?_
          refine a_rseq ?_
          refine rg_put (d := 88) (v := .el ((rI .u8 (ix os j)))) rfl (og rfl (s_index rfl Try.underlying23 ti5 rfl rfl (by omega) (row_at (by omega)) rfl)) ?_
          refine rg_put (d := 89) (v := .d (.fl (.int .u8 (ix os j)))) rfl (og rfl (op_load_el rfl Try.underlying5 rfl rfl rfl rfl)) ?_
          refine rg_put (d := 16) (v := .d (.fl (.int .u8 (ix os j)))) rfl (og rfl (op_assign rfl rfl rfl)) ?_
          refine rg_done rfl ?_
          refine a_rseq ?_
          have hub := hu _ (ix_mem (by omega : j < os.length))
          refine rg_put (d := 90) (v := .d (.sl 4 (List.map eFil ((pS ls ls.length).wait)))) rfl (og rfl (op_load_pt rfl Try.underlying25 rfl rfl rfl rfl rfl)) ?_
          refine rg_put (d := 91) (v := .d (.fl (.int .i64 ((((pS ls ls.length).wait).length : Int))))) rfl (og rfl (s_len rfl Try.underlying25 rfl rfl)) ?_
          refine rg_put (d := 92) (v := .d (.fl (.bool ((decide (0 < (((pS ls ls.length).wait).length : Int))))))) rfl (og rfl (op_bin rfl rfl rfl (b_gtr _ _ _ _) rfl)) ?_
          refine rg_put (d := 93) (v := .d (.fl (.bool ((decide (0 < (((pS ls ls.length).wait).length : Int))))))) rfl (og rfl (op_move rfl rfl rfl)) ?_
          rcases fot ((decide (0 < (((pS ls ls.length).wait).length : Int)))) with h18 | h18
          · skip
            have h19 := f_dec h18
            refine rg_put (d := 94) (v := .d (.fl undef)) rfl (on rfl rfl rfl h18) ?_
            refine rg_put (d := 95) (v := .d (.fl undef)) rfl (on rfl rfl rfl h18) ?_
            refine rg_put (d := 96) (v := .d (.fl undef)) rfl (on rfl rfl rfl h18) ?_
            refine rg_put (d := 97) (v := .d (.fl undef)) rfl (on rfl rfl rfl h18) ?_
            refine rg_put (d := 98) (v := .d (.fl undef)) rfl (on rfl rfl rfl h18) ?_
            refine rg_put (d := 99) (v := .d (.fl undef)) rfl (on rfl rfl rfl h18) ?_
            refine rg_put (d := 100) (v := .d (.fl undef)) rfl (on rfl rfl rfl h18) ?_
            refine rg_put (d := 101) (v := .d (.fl undef)) rfl (on rfl rfl rfl h18) ?_
            refine rg_put (d := 102) (v := .d (.fl (.bool false))) rfl (og rfl (op_pick rfl rfl (by rw [h18]; rfl) rfl)) ?_
            refine rg_done rfl ?_
            refine a_condF rfl rfl ?_
            refine a_skip ?_
            show A _ _ _ _ _ _ _
            refine a_region ?_
            refine rg_put (d := 103) (v := .d (.fl (.int .i64 (((j : Int) + 1))))) rfl (og rfl (op_bin rfl rfl rfl (fun x y w => b_add64 _ _ _ x y w (by omega)) rfl)) ?_
            refine rg_put (d := 86) (v := .d (.fl (.int .i64 (((j : Int) + 1))))) rfl (og rfl (op_move rfl rfl rfl)) ?_
            refine rg_done rfl ?_
            show ∃ i, _ ∧ _ ∧ Imp _ _ _ _ _
            refine ⟨j + 1, (by omega), by omega, imp_forget rfl ⟨rfl, rfl, rfl, rfl, rfl, rfl, rfl, rfl, rfl, rfl, rfl, rfl, rfl, rfl, rfl, rfl, rfl, (by first | rfl | exact ci (by omega) | exact ci (by simp) | exact cd (by simp) | simp), trivial⟩ ⟨rfl, rfl, (congrArg (fun z => Ob.bx 28 (ePt (bS (pS ls ls.length).wait z))) (ms_n h18).symm), trivial⟩⟩
          · skip
            have h20 := t_dec h18
            refine rg_put (d := 94) (v := .cl 8 [.p 102, .p 103]) rfl (oy rfl rfl rfl h18 (op_move rfl rfl rfl)) ?_
            refine rg_put (d := 95) (v := .d (.fl (.int .u8 (ix os j)))) rfl (oy rfl rfl rfl h18 (op_move rfl rfl rfl)) ?_
            refine rg_put (d := 96) (v := .d (.fl (.int .i64 (ix os j)))) rfl (oy rfl rfl rfl h18 (op_conv rfl Try.underlying5 Try.underlying3 rfl (w64 (by omega)) rfl)) ?_
            refine rg_put (d := 97) (v := .d (.sl 4 (List.map eFil ((pS ls ls.length).wait)))) rfl (oy rfl rfl rfl h18 (op_load_pt rfl Try.underlying25 rfl rfl rfl rfl rfl)) ?_
            refine rg_put (d := 98) (v := .d (.fl (.int .i64 ((((pS ls ls.length).wait).length : Int))))) rfl (oy rfl rfl rfl h18 (s_len rfl Try.underlying25 rfl rfl)) ?_
            refine rg_put (d := 99) (v := .d (.fl (.int .i64 (((ix os j) % (((pS ls ls.length).wait).length : Int)))))) rfl (oy rfl rfl rfl h18 (op_bin rfl rfl rfl (fun x y w => b_rem _ _ _ x y w (by omega) (by omega)) rfl)) ?_
            refine rg_upd (d := 100) (v := .d (.fl (.bool true))) (nw := [(102, .bx 28 ((ePt (bS (pS ls ls.length).wait (mvN (mS (pS ls ls.length).wait.length os j) ((ix os j % ((pS ls ls.length).wait.length : Int)).toNat)))))), (103, .bx 25 [.sl 4 (List.map eFil ((pS ls ls.length).wait))])]) rfl (oy rfl rfl rfl h18 (of_eff (op_callXV [102, 103] (obs := [.bx 28 ((ePt (bS (pS ls ls.length).wait (mS (pS ls ls.length).wait.length os j)))), .bx 25 [.sl 4 (List.map eFil ((pS ls ls.length).wait))]]) (obs' := [.bx 28 ((ePt (bS (pS ls ls.length).wait (mvN (mS (pS ls ls.length).wait.length os j) ((ix os j % ((pS ls ls.length).wait.length : Int)).toNat))))), .bx 25 [.sl 4 (List.map eFil ((pS ls ls.length).wait))]]) (r := .d (.fl (.bool true))) rfl ⟨_, Try.func8, nm8, rfl⟩ rfl (.d rfl (.d _) .nil) (.p 0 rfl (.p 1 rfl .nil)) rfl (And.intro rfl (And.intro rfl trivial)) rfl rfl rfl ((by have h0 := rem_b (n := (pS ls ls.length).wait.length) (x := ix os j) (by omega); have h := clC (pS ls ls.length).wait (mS (pS ls ls.length).wait.length os j) ((ix os j % ((pS ls ls.length).wait.length : Int)).toNat) hw h0.1 (ms_le _ _ _); rw [h0.2] at h; exact h)) rfl) rfl)) ?_
            refine rg_put (d := 101) (v := .d (.fl (.bool (!true)))) rfl (oy rfl rfl rfl h18 (op_un rfl rfl (u_not _) rfl)) ?_
            refine rg_put (d := 102) (v := .d (.fl (.bool (!true)))) rfl (og rfl (op_pick rfl rfl (by rw [h18]; rfl) rfl)) ?_
            refine rg_done rfl ?_
            refine a_condF rfl rfl ?_
            refine a_skip ?_
            show A _ _ _ _ _ _ _
            refine a_region ?_
            refine rg_put (d := 103) (v := .d (.fl (.int .i64 (((j : Int) + 1))))) rfl (og rfl (op_bin rfl rfl rfl (fun x y w => b_add64 _ _ _ x y w (by omega)) rfl)) ?_
            refine rg_put (d := 86) (v := .d (.fl (.int .i64 (((j : Int) + 1))))) rfl (og rfl (op_move rfl rfl rfl)) ?_
            refine rg_done rfl ?_
            show ∃ i, _ ∧ _ ∧ Imp _ _ _ _ _
            refine ⟨j + 1, (by omega), by omega, imp_forget rfl ⟨rfl, rfl, rfl, rfl, rfl, rfl, rfl, rfl, rfl, rfl, rfl, rfl, rfl, rfl, rfl, rfl, rfl, (by first | rfl | exact ci (by omega) | exact ci (by simp) | exact cd (by simp) | simp), trivial⟩ ⟨rfl, rfl, (congrArg (fun z => Ob.bx 28 (ePt (bS (pS ls ls.length).wait z))) (ms_y h18).symm), trivial⟩⟩
        · skip
          have h21 := f_dec h16
          refine a_exit ?_
          show A _ _ _ _ _ _ _
          refine a_seq ?_
          refine a_rseq ?_
          have hjl0 : j = os.length := by omega
          rw [show (mS (pS ls ls.length).wait.length os j) = (mS (pS ls ls.length).wait.length os os.length) from (by rw [hjl0])]
          refine rg_put (d := 104) (v := .d (.sl 4 (List.map eFil ((pS ls ls.length).wait)))) rfl (og rfl (op_load_pt rfl Try.underlying25 rfl rfl rfl rfl rfl)) ?_
          refine rg_put (d := 105) (v := .d (.fl (.int .i64 ((((pS ls ls.length).wait).length : Int))))) rfl (og rfl (s_len rfl Try.underlying25 rfl rfl)) ?_
          refine rg_put (d := 106) (v := .d (.fl (.int .i64 0))) rfl (og rfl (op_move rfl rfl rfl)) ?_
          refine rg_done rfl ?_
          refine a_block ?_
          refine a_loop (ι := Nat) (fun i => SS [(0, .d (.sl 1 (List.map (rL 5 eRec) ls))), (1, .d (.sl 1 (List.map (rI .u8) os))), (5, .pt 101 0), (6, .d (.fl (.int .i64 0))), (7, .pt 102 0), (8, .d (.fl (.int .i64 0))), (9, .pt 103 0), (14, .cl 8 [.p 102, .p 103]), (25, .d (.fl (.bool ((decide (60 < (os.length : Int))))))), (40, .d (.fl (.bool (0 != 0)))), (41, .d (.sl 1 (List.map (rL 5 eRec) ls))), (42, .d (.fl (.int .i64 (ls.length : Int)))), (43, .d (.fl (.int .i64 (k : Int)))), (44, .d (.fl (.bool ((decide ((k : Int) < (ls.length : Int))))))), (82, .d (.fl (.bool (((((pS ls ls.length).wait).length : Int) != (((pS ls ls.length).wait).length : Int)))))), (84, .d (.sl 1 (List.map (rI .u8) os))), (85, .d (.fl (.int .i64 (os.length : Int)))), (86, .d (.fl (.int .i64 (j : Int)))), (87, .d (.fl (.bool ((decide ((j : Int) < (os.length : Int))))))), (105, .d (.fl (.int .i64 ((((pS ls ls.length).wait).length : Int))))), (106, .d (.fl (.int .i64 (i : Int))))] [(101, .bx 28 ((ePt (pS ls ls.length)))), (103, .bx 25 [.sl 4 (List.map eFil ((pS ls ls.length).wait))]), (102, .bx 28 ((ePt (bS (pS ls ls.length).wait (nS (mS (pS ls ls.length).wait.length os os.length) i)))))]) (fun i => i ≤ (pS ls ls.length).wait.length) (fun i => (pS ls ls.length).wait.length - i) 0 (by omega) (imp_forget rfl ⟨rfl, rfl, rfl, rfl, rfl, rfl, rfl, rfl, rfl, rfl, rfl, rfl, rfl, rfl, rfl, rfl, rfl, rfl, rfl, rfl, (by first | rfl | exact ci (by omega) | exact ci (by simp) | exact cd (by simp) | simp), trivial⟩ ⟨rfl, rfl, rfl, trivial⟩) (fun i hok => ?_)
          have hii := hok
          refine a_rseq ?_
          refine rg_put (d := 107) (v := .d (.fl (.bool ((decide ((i : Int) < (((pS ls ls.length).wait).length : Int))))))) rfl (og rfl (op_bin rfl rfl rfl (b_lss _ _ _ _) rfl)) ?_
          refine rg_done rfl ?_
          refine a_seq ?_
          refine a_cond rfl (fun h22 => ?_) (fun h22 => ?_)
          · skip
            have h23 := t_dec h22
            refine a_skip ?_
            show A _ _ _ _ _ _ _
            refine a_seq ?_
            refine a_block ?_
            refine a_rseq ?_
            refine rg_put (d := 108) (v := .d (.fl (.int .i64 (i : Int)))) rfl (og rfl (op_move rfl rfl rfl)) ?_
            refine rg_put (d := 17) (v := .d (.fl (.int .i64 (i : Int)))) rfl (og rfl (op_assign rfl rfl rfl)) ?_
            refine rg_done rfl ?_
            refine a_rseq ?_
            refine rg_put (d := 109) (v := .cl 8 [.p 102, .p 103]) rfl (og rfl (op_move rfl rfl rfl)) ?_
            refine rg_put (d := 110) (v := .d (.fl (.int .i64 (i : Int)))) rfl (og rfl (op_move rfl rfl rfl)) ?_
            refine rg_upd (d := 111) (v := .d (.fl (.bool true))) (nw := [(102, .bx 28 ((ePt (bS (pS ls ls.length).wait (mvN (nS (mS (pS ls ls.length).wait.length os os.length) i) (i)))))), (103, .bx 25 [.sl 4 (List.map eFil ((pS ls ls.length).wait))])]) rfl (og rfl (of_eff (op_callXV [102, 103] (obs := [.bx 28 ((ePt (bS (pS ls ls.length).wait (nS (mS (pS ls ls.length).wait.length os os.length) i)))), .bx 25 [.sl 4 (List.map eFil ((pS ls ls.length).wait))]]) (obs' := [.bx 28 ((ePt (bS (pS ls ls.length).wait (mvN (nS (mS (pS ls ls.length).wait.length os os.length) i) (i))))), .bx 25 [.sl 4 (List.map eFil ((pS ls ls.length).wait))]]) (r := .d (.fl (.bool true))) rfl ⟨_, Try.func8, nm8, rfl⟩ rfl (.d rfl (.d _) .nil) (.p 0 rfl (.p 1 rfl .nil)) rfl (And.intro rfl (And.intro rfl trivial)) rfl rfl rfl (clC (pS ls ls.length).wait (nS (mS (pS ls ls.length).wait.length os os.length) i) i hw (by omega) (ns_le (ms_le _ _ _) _ (by omega))) rfl) rfl)) ?_
            refine rg_put (d := 112) (v := .d (.fl (.bool (!true)))) rfl (og rfl (op_un rfl rfl (u_not _) rfl)) ?_
            refine rg_done rfl ?_
            refine a_condF rfl rfl ?_
            refine a_skip ?_
            show A _ _ _ _ _ _ _
            refine a_region ?_
            refine rg_put (d := 113) (v := .d (.fl (.int .i64 (((i : Int) + 1))))) rfl (og rfl (op_bin rfl rfl rfl (fun x y w => b_add64 _ _ _ x y w (by omega)) rfl)) ?_
            refine rg_put (d := 106) (v := .d (.fl (.int .i64 (((i : Int) + 1))))) rfl (og rfl (op_move rfl rfl rfl)) ?_
            refine rg_done rfl ?_
            show ∃ i, _ ∧ _ ∧ Imp _ _ _ _ _
            refine ⟨i + 1, (by omega), by omega, imp_forget rfl ⟨rfl, rfl, rfl, rfl, rfl, rfl, rfl, rfl, rfl, rfl, rfl, rfl, rfl, rfl, rfl, rfl, rfl, rfl, rfl, rfl, (by first | rfl | exact ci (by omega) | exact ci (by simp) | exact cd (by simp) | simp), trivial⟩ ⟨rfl, rfl, rfl, trivial⟩⟩
          · skip
            have h24 := f_dec h22
            refine a_exit ?_
            show A _ _ _ _ _ _ _
            refine a_rseq ?_
            have hil0 : i = (pS ls ls.length).wait.length := by omega
            have hend : nS (mS (pS ls ls.length).wait.length os os.length) i = (pS ls ls.length).wait.length := by have h1 := ns_ge (mS (pS ls ls.length).wait.length os os.length) i; have h2 := ns_le (ms_le (pS ls ls.length).wait.length os os.length) i (by omega); omega
            refine rg_put (d := 114) (v := .pt 102 2) rfl (og rfl (of_eff (s_field_pt rfl Try.underlying28 rfl ti3 rfl rfl rfl) rfl)) ?_
            refine rg_put (d := 115) (v := .d (.fl (.int .i64 ((bS (pS ls ls.length).wait (nS (mS (pS ls ls.length).wait.length os os.length) i)).inn)))) rfl (og rfl (op_load_pt rfl Try.underlying3 rfl rfl rfl rfl rfl)) ?_
            refine rg_put (d := 116) (v := .pt 101 1) rfl (og rfl (of_eff (s_field_pt rfl Try.underlying28 rfl ti3 rfl rfl rfl) rfl)) ?_
            refine rg_put (d := 117) (v := .d (.fl (.int .i64 ((pS ls ls.length).out)))) rfl (og rfl (op_load_pt rfl Try.underlying3 rfl rfl rfl rfl rfl)) ?_
            refine rg_put (d := 118) (v := .d (.fl (.bool (((bS (pS ls ls.length).wait (nS (mS (pS ls ls.length).wait.length os os.length) i)).inn == (pS ls ls.length).out))))) rfl (og rfl (op_bin rfl rfl rfl (b_eql _ _ _ _) rfl)) ?_
            refine rg_put (d := 119) (v := .d (.fl (.bool (((bS (pS ls ls.length).wait (nS (mS (pS ls ls.length).wait.length os os.length) i)).inn == (pS ls ls.length).out))))) rfl (og rfl (op_move rfl rfl rfl)) ?_
            refine rg_put (d := 120) (v := .pt 101 4) rfl (oy rfl rfl rfl (show (((bS (pS ls ls.length).wait (nS (mS (pS ls ls.length).wait.length os os.length) i)).inn == (pS ls ls.length).out)) = true from (beq_iff_eq.2 (bs_end hi0 h30 hend).1)) (of_eff (s_field_pt rfl Try.underlying28 rfl ti26 rfl rfl rfl) rfl)) ?_
            refine rg_put (d := 121) (v := .d (.sl 5 (List.map eRec ((pS ls ls.length).ours)))) rfl (oy rfl rfl rfl (show (((bS (pS ls ls.length).wait (nS (mS (pS ls ls.length).wait.length os os.length) i)).inn == (pS ls ls.length).out)) = true from (beq_iff_eq.2 (bs_end hi0 h30 hend).1)) (op_load_pt rfl Try.underlying26 rfl rfl rfl rfl rfl)) ?_
            refine rg_put (d := 122) (v := .pt 102 5) rfl (oy rfl rfl rfl (show (((bS (pS ls ls.length).wait (nS (mS (pS ls ls.length).wait.length os os.length) i)).inn == (pS ls ls.length).out)) = true from (beq_iff_eq.2 (bs_end hi0 h30 hend).1)) (of_eff (s_field_pt rfl Try.underlying28 rfl ti26 rfl rfl rfl) rfl)) ?_
            refine rg_put (d := 123) (v := .d (.sl 5 (List.map eRec ((bS (pS ls ls.length).wait (nS (mS (pS ls ls.length).wait.length os os.length) i)).theirs)))) rfl (oy rfl rfl rfl (show (((bS (pS ls ls.length).wait (nS (mS (pS ls ls.length).wait.length os os.length) i)).inn == (pS ls ls.length).out)) = true from (beq_iff_eq.2 (bs_end hi0 h30 hend).1)) (op_load_pt rfl Try.underlying26 rfl rfl rfl rfl rfl)) ?_
            refine rg_put (d := 124) (v := .d (.fl (.bool true))) rfl (oy rfl rfl rfl (show (((bS (pS ls ls.length).wait (nS (mS (pS ls ls.length).wait.length os os.length) i)).inn == (pS ls ls.length).out)) = true from (beq_iff_eq.2 (bs_end hi0 h30 hend).1)) (op_call rfl Try.func11 nm11 rfl (.cons rfl (.d _) (.cons rfl (.d _) .nil)) (sarE ((pS ls ls.length).ours) ((bS (pS ls ls.length).wait (nS (mS (pS ls ls.length).wait.length os os.length) i)).theirs) (bs_end hi0 h30 hend).2 (by have := hi0.ol; omega)) rfl)) ?_
            refine rg_put (d := 125) (v := .d (.fl (.bool true))) rfl (og rfl (op_pick rfl rfl (by rw [(show (((bS (pS ls ls.length).wait (nS (mS (pS ls ls.length).wait.length os os.length) i)).inn == (pS ls ls.length).out)) = true from (beq_iff_eq.2 (bs_end hi0 h30 hend).1))]; rfl) rfl)) ?_
            refine rg_put (d := 126) (v := .d (.fl (.bool true))) rfl (og rfl (op_move rfl rfl rfl)) ?_
            refine rg_put (d := 127) (v := .d (.fl (.bool true))) rfl (oy rfl rfl rfl rfl (op_call rfl Try.func4 nm4 rfl .nil alive4 rfl)) ?_
            refine rg_put (d := 128) (v := .d (.fl (.bool true))) rfl (og rfl (op_pick rfl rfl rfl rfl)) ?_
            refine rg_put (d := 4) (v := .d (.fl (.bool true))) rfl (og rfl (op_assign rfl rfl rfl)) ?_
            refine rg_done rfl ?_
            refine a_ret ?_
            show ∃ ds, ResL _ _ _ ds ∧ RV.of ds = _
            refine ⟨[.fl (.bool true)], (.cons (.tmp rfl (.d _)) .nil), ?_⟩
            rfl
  · skip
    have h25 := t_dec h1
    refine rg_put (d := 22) (v := .d (.fl undef)) rfl (on rfl rfl rfl h1) ?_
    refine rg_put (d := 23) (v := .d (.fl undef)) rfl (on rfl rfl rfl h1) ?_
    refine rg_put (d := 24) (v := .d (.fl undef)) rfl (on rfl rfl rfl h1) ?_
    refine rg_put (d := 25) (v := .d (.fl (.bool true))) rfl (og rfl (op_pick rfl rfl (by rw [h1]; rfl) rfl)) ?_
    refine rg_done rfl ?_
    refine a_condK rfl rfl ?_
    refine a_rseq ?_
    refine rg_put (d := 26) (v := .d (.fl (.bool true))) rfl (og rfl (op_call rfl Try.func4 nm4 rfl .nil alive4 rfl)) ?_
    refine rg_put (d := 4) (v := .d (.fl (.bool true))) rfl (og rfl (op_assign rfl rfl rfl)) ?_
    refine rg_done rfl ?_
    refine a_ret ?_
    show ∃ ds, ResL _ _ _ ds ∧ RV.of ds = _
    refine ⟨[.fl (.bool true)], (.cons (.tmp rfl (.d _)) .nil), ?_⟩
    rfl
end Go.Proofs.Ytijjnbabdlllkaa.Wk
