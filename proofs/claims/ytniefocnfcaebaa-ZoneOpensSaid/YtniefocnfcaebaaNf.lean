/- Normal forms of lists of intervals. No condition. -/
import Derived.Test.YtniefocnfcaebaaB2
set_option linter.unusedSimpArgs false
set_option linter.unusedVariables false
namespace Go.Proofs.Ytniefocnfcaebaa.Wk
open Go Go.RowKit Go.Proofs.Ytniefocnfcaebaa.Av
def Mem (M : List Ivl) (t : Int) : Prop := ∃ s ∈ M, s.fr ≤ t ∧ t < s.to
structure NF (M : List Ivl) : Prop where
  v : ∀ s ∈ M, s.fr < s.to
  p : M.Pairwise (fun a b => a.to < b.fr)
theorem Mem.nil {t : Int} : ¬ Mem [] t := fun ⟨s, h, _⟩ => by cases h
theorem mem_app {A B : List Ivl} {t : Int} : Mem (A ++ B) t ↔ Mem A t ∨ Mem B t := by
  unfold Mem
  constructor
  · rintro ⟨s, h, h2⟩
    rcases List.mem_append.1 h with h | h
    · exact .inl ⟨s, h, h2⟩
    · exact .inr ⟨s, h, h2⟩
  · rintro (⟨s, h, h2⟩ | ⟨s, h, h2⟩)
    · exact ⟨s, List.mem_append.2 (.inl h), h2⟩
    · exact ⟨s, List.mem_append.2 (.inr h), h2⟩
theorem mem_one {s : Ivl} {t : Int} : Mem [s] t ↔ s.fr ≤ t ∧ t < s.to := by
  unfold Mem
  constructor
  · rintro ⟨s', h, h2⟩; rw [List.mem_singleton] at h; subst h; exact h2
  · intro h; exact ⟨s, List.mem_singleton.2 rfl, h⟩
theorem mem_cons {s : Ivl} {M : List Ivl} {t : Int} : Mem (s :: M) t ↔ (s.fr ≤ t ∧ t < s.to) ∨ Mem M t := by
  rw [show s :: M = [s] ++ M from rfl, mem_app, mem_one]
theorem NF.nil : NF [] := ⟨fun s h => (by cases h), List.Pairwise.nil⟩
theorem NF.tail {s : Ivl} {M : List Ivl} (h : NF (s :: M)) : NF M := ⟨fun x hx => h.v x (List.mem_cons_of_mem _ hx), (List.pairwise_cons.1 h.p).2⟩
theorem NF.gap {s : Ivl} {M : List Ivl} (h : NF (s :: M)) {t : Int} (hm : Mem M t) : s.to < t := by
  obtain ⟨x, hx, h1, _⟩ := hm
  have := (List.pairwise_cons.1 h.p).1 x hx
  omega
theorem nf_uniq : ∀ {A B : List Ivl}, NF A → NF B → (∀ t, Mem A t ↔ Mem B t) → A = B
  | [], [], _, _, _ => rfl
  | [], b :: B, _, hB, h => absurd ((h b.fr).2 (mem_cons.2 (.inl ⟨Int.le_refl _, hB.v b (by simp)⟩))) Mem.nil
  | a :: A, [], hA, _, h => absurd ((h a.fr).1 (mem_cons.2 (.inl ⟨Int.le_refl _, hA.v a (by simp)⟩))) Mem.nil
  | a :: A, b :: B, hA, hB, h => by
    have ha := hA.v a (by simp)
    have hb := hB.v b (by simp)
    have e1 : a.fr = b.fr := by
      have h1 : b.fr ≤ a.fr := by
        rcases mem_cons.1 ((h a.fr).1 (mem_cons.2 (.inl ⟨Int.le_refl _, ha⟩))) with q | q
        · exact q.1
        · have := hB.gap q; omega
      have h2 : a.fr ≤ b.fr := by
        rcases mem_cons.1 ((h b.fr).2 (mem_cons.2 (.inl ⟨Int.le_refl _, hb⟩))) with q | q
        · exact q.1
        · have := hA.gap q; omega
      omega
    have e2 : a.to = b.to := by
      have nA : ¬ Mem (a :: A) a.to := fun q => by
        rcases mem_cons.1 q with q | q
        · omega
        · have := hA.gap q; omega
      have nB : ¬ Mem (b :: B) b.to := fun q => by
        rcases mem_cons.1 q with q | q
        · omega
        · have := hB.gap q; omega
      rcases Int.lt_trichotomy a.to b.to with q | q | q
      · exact absurd ((h a.to).2 (mem_cons.2 (.inl ⟨by omega, q⟩))) nA
      · exact q
      · exact absurd ((h b.to).1 (mem_cons.2 (.inl ⟨by omega, q⟩))) nB
    have e3 : a = b := by cases a; cases b; simp at e1 e2; subst e1 e2; rfl
    subst e3
    rw [nf_uniq hA.tail hB.tail (fun t => ?_)]
    constructor
    · intro q
      rcases mem_cons.1 ((h t).1 (mem_cons.2 (.inr q))) with z | z
      · have := hA.gap q; omega
      · exact z
    · intro q
      rcases mem_cons.1 ((h t).2 (mem_cons.2 (.inr q))) with z | z
      · have := hB.gap q; omega
      · exact z
def ext1 (M : List Ivl) (x : Ivl) : List Ivl := if 0 < M.length ∧ x.fr ≤ (ix M (M.length - 1)).to then M.set (M.length - 1) ⟨(ix M (M.length - 1)).fr, max (ix M (M.length - 1)).to x.to⟩ else M ++ [x]
def extJ (M : List Ivl) (x : Ivl) : List Ivl := if 0 < M.length ∧ (ix M (M.length - 1)).to = x.fr then M.set (M.length - 1) ⟨(ix M (M.length - 1)).fr, x.to⟩ else M ++ [x]
theorem ix_last (A : List Ivl) (s : Ivl) : ix (A ++ [s]) ((A ++ [s]).length - 1) = s := by
  unfold ix
  rw [List.getD_eq_getElem?_getD, List.length_append, List.length_singleton, Nat.add_sub_cancel, List.getElem?_append_right (Nat.le_refl _), Nat.sub_self]; rfl
theorem set_last (A : List Ivl) (s v : Ivl) : (A ++ [s]).set ((A ++ [s]).length - 1) v = A ++ [v] := by
  rw [List.length_append, List.length_singleton, Nat.add_sub_cancel, List.set_append_right _ _ (Nat.le_refl _), Nat.sub_self]; rfl
theorem nf_app {A : List Ivl} {s : Ivl} : NF (A ++ [s]) ↔ NF A ∧ s.fr < s.to ∧ ∀ a ∈ A, a.to < s.fr := by
  constructor
  · intro h
    have hp := List.pairwise_append.1 h.p
    exact ⟨⟨fun x hx => h.v x (List.mem_append.2 (.inl hx)), hp.1⟩, h.v s (by simp), fun a ha => hp.2.2 a ha s (by simp)⟩
  · rintro ⟨h1, h2, h3⟩
    refine ⟨fun x hx => ?_, List.pairwise_append.2 ⟨h1.p, List.pairwise_singleton _ _, fun a ha b hb => ?_⟩⟩
    · rcases List.mem_append.1 hx with hx | hx
      · exact h1.v x hx
      · rw [List.mem_singleton] at hx; subst hx; exact h2
    · rw [List.mem_singleton] at hb; subst hb; exact h3 a ha
theorem ext1_ok {M : List Ivl} {x : Ivl} (h : NF M) (hx : x.fr < x.to) (hs : ∀ s ∈ M, s.fr ≤ x.fr) : NF (ext1 M x) ∧ (∀ t, Mem (ext1 M x) t ↔ Mem M t ∨ (x.fr ≤ t ∧ t < x.to)) ∧ (∀ s ∈ ext1 M x, s.fr ≤ x.fr) := by
  rcases List.eq_nil_or_concat M with rfl | ⟨A, s, rfl⟩
  · have : ext1 [] x = [x] := rfl
    rw [this]
    exact ⟨nf_app (A := []).2 ⟨NF.nil, hx, fun a ha => by cases ha⟩, fun t => by rw [mem_one]; exact ⟨.inr, fun h => h.elim (fun h => absurd h Mem.nil) id⟩, fun s hs => by rw [List.mem_singleton] at hs; subst hs; exact Int.le_refl _⟩
  · rw [List.concat_eq_append] at *
    obtain ⟨h1, h2, h3⟩ := nf_app.1 h
    have hsx := hs s (by simp)
    unfold ext1
    rw [ix_last, set_last]
    by_cases hc : x.fr ≤ s.to
    · rw [if_pos ⟨by simp, hc⟩]
      refine ⟨nf_app.2 ⟨h1, ?_, h3⟩, fun t => ?_, fun y hy => ?_⟩
      · show s.fr < max s.to x.to; omega
      · rw [mem_app, mem_one, mem_app, mem_one]
        show _ ∨ (s.fr ≤ t ∧ t < max s.to x.to) ↔ _
        constructor
        · rintro (q | q)
          · exact .inl (.inl q)
          · by_cases hts : t < s.to
            · exact .inl (.inr ⟨q.1, hts⟩)
            · exact .inr ⟨by omega, by omega⟩
        · rintro ((q | q) | q)
          · exact .inl q
          · exact .inr ⟨q.1, by omega⟩
          · exact .inr ⟨by omega, by omega⟩
      · rcases List.mem_append.1 hy with hy | hy
        · exact hs y (List.mem_append.2 (.inl hy))
        · rw [List.mem_singleton] at hy; subst hy; exact hsx
    · rw [if_neg (fun h => hc h.2)]
      refine ⟨nf_app.2 ⟨h, hx, fun a ha => ?_⟩, fun t => by rw [mem_app, mem_one], fun y hy => ?_⟩
      · rcases List.mem_append.1 ha with ha | ha
        · have := h3 a ha; omega
        · rw [List.mem_singleton] at ha; subst ha; omega
      · rcases List.mem_append.1 hy with hy | hy
        · exact hs y hy
        · rw [List.mem_singleton] at hy; subst hy; exact Int.le_refl _
theorem extJ_ok {M : List Ivl} {x : Ivl} (h : NF M) (hx : x.fr < x.to) (hs : ∀ s ∈ M, s.to ≤ x.fr) : NF (extJ M x) ∧ (∀ t, Mem (extJ M x) t ↔ Mem M t ∨ (x.fr ≤ t ∧ t < x.to)) ∧ (∀ s ∈ extJ M x, s.to ≤ x.to) := by
  rcases List.eq_nil_or_concat M with rfl | ⟨A, s, rfl⟩
  · have : extJ [] x = [x] := rfl
    rw [this]
    exact ⟨nf_app (A := []).2 ⟨NF.nil, hx, fun a ha => by cases ha⟩, fun t => by rw [mem_one]; exact ⟨.inr, fun h => h.elim (fun h => absurd h Mem.nil) id⟩, fun s hs => by rw [List.mem_singleton] at hs; subst hs; exact Int.le_refl _⟩
  · rw [List.concat_eq_append] at *
    obtain ⟨h1, h2, h3⟩ := nf_app.1 h
    have hsx := hs s (by simp)
    unfold extJ
    rw [ix_last, set_last]
    by_cases hc : s.to = x.fr
    · rw [if_pos ⟨by simp, hc⟩]
      refine ⟨nf_app.2 ⟨h1, ?_, h3⟩, fun t => ?_, fun y hy => ?_⟩
      · show s.fr < x.to; omega
      · rw [mem_app, mem_one, mem_app, mem_one]
        show _ ∨ (s.fr ≤ t ∧ t < x.to) ↔ _
        constructor
        · rintro (q | q)
          · exact .inl (.inl q)
          · by_cases hts : t < s.to
            · exact .inl (.inr ⟨q.1, hts⟩)
            · exact .inr ⟨by omega, q.2⟩
        · rintro ((q | q) | q)
          · exact .inl q
          · exact .inr ⟨q.1, by omega⟩
          · exact .inr ⟨by omega, q.2⟩
      · rcases List.mem_append.1 hy with hy | hy
        · have := h3 y hy; omega
        · rw [List.mem_singleton] at hy; subst hy; exact Int.le_refl _
    · rw [if_neg (fun h => hc h.2)]
      refine ⟨nf_app.2 ⟨h, hx, fun a ha => ?_⟩, fun t => by rw [mem_app, mem_one], fun y hy => ?_⟩
      · rcases List.mem_append.1 ha with ha | ha
        · have := h3 a ha; omega
        · rw [List.mem_singleton] at ha; subst ha; omega
      · rcases List.mem_append.1 hy with hy | hy
        · have := hs y hy; omega
        · rw [List.mem_singleton] at hy; subst hy; exact Int.le_refl _
theorem ext1_len (M : List Ivl) (x : Ivl) : (ext1 M x).length ≤ M.length + 1 ∧ M.length ≤ (ext1 M x).length := by unfold ext1; split <;> simp
theorem extJ_len (M : List Ivl) (x : Ivl) : (extJ M x).length ≤ M.length + 1 ∧ M.length ≤ (extJ M x).length := by unfold extJ; split <;> simp
def mg (S : List Ivl) : Nat → List Ivl
  | 0 => []
  | n + 1 => ext1 (mg S n) (ix S n)
theorem mg_len (S : List Ivl) : ∀ n, (mg S n).length ≤ n
  | 0 => Nat.le_refl _
  | n + 1 => by have := mg_len S n; have := (ext1_len (mg S n) (ix S n)).1; show (ext1 (mg S n) (ix S n)).length ≤ _; omega
theorem mg_ok {S : List Ivl} (hv : ∀ s ∈ S, s.fr < s.to) (hp : S.Pairwise (fun a b => a.fr ≤ b.fr)) : ∀ n, n ≤ S.length → NF (mg S n) ∧ (∀ t, Mem (mg S n) t ↔ Mem (S.take n) t) ∧ (n = 0 ∨ ∀ s ∈ mg S n, s.fr ≤ (ix S (n - 1)).fr)
  | 0, _ => ⟨NF.nil, fun t => by rw [List.take_zero]; exact Iff.rfl, .inl rfl⟩
  | n + 1, h => by
    obtain ⟨h1, h2, h3⟩ := mg_ok hv hp n (by omega)
    have hm : ix S n ∈ S := ix_mem (by omega)
    have hle : ∀ s ∈ mg S n, s.fr ≤ (ix S n).fr := by
      rcases h3 with h3 | h3
      · subst h3; intro s hs; cases hs
      · intro s hs
        have a1 := h3 s hs
        have hn : n ≠ 0 := by rintro rfl; cases hs
        have a2 := List.pairwise_iff_getElem.1 hp (n - 1) n (by omega) (by omega) (by omega)
        rw [ix_eq (by omega), ix_eq (by omega)] at a2
        omega
    obtain ⟨g1, g2, g3⟩ := ext1_ok h1 (hv _ hm) hle
    refine ⟨g1, fun t => ?_, .inr g3⟩
    show Mem (ext1 (mg S n) (ix S n)) t ↔ _
    rw [g2, h2, take_ix (by omega), mem_app, mem_one]
def rwM (S : List Ivl) (n : Nat) : List Ivl := mg S n ++ S.drop (mg S n).length
theorem rwM_len {S : List Ivl} {n : Nat} (h : n ≤ S.length) : (rwM S n).length = S.length := by
  have := mg_len S n
  unfold rwM
  rw [List.length_append, List.length_drop]; omega
theorem rwM_ix {S : List Ivl} {n q : Nat} (h : (mg S n).length ≤ q) : ix (rwM S n) q = ix S q := by
  unfold rwM ix
  rw [List.getD_eq_getElem?_getD, List.getD_eq_getElem?_getD, List.getElem?_append_right h, List.getElem?_drop]
  congr 2; omega
theorem rwM_lo {S : List Ivl} {n q : Nat} (h : q < (mg S n).length) : ix (rwM S n) q = ix (mg S n) q := by
  unfold rwM ix
  rw [List.getD_eq_getElem?_getD, List.getD_eq_getElem?_getD, List.getElem?_append_left h]
theorem rwM_old {S : List Ivl} {n : Nat} (h0 : 0 < (mg S n).length) (hc : (ix S n).fr ≤ (ix (mg S n) ((mg S n).length - 1)).to) : mg S (n + 1) = (mg S n).set ((mg S n).length - 1) ⟨(ix (mg S n) ((mg S n).length - 1)).fr, max (ix (mg S n) ((mg S n).length - 1)).to (ix S n).to⟩ ∧ (mg S (n + 1)).length = (mg S n).length := by
  have e : mg S (n + 1) = (mg S n).set ((mg S n).length - 1) ⟨(ix (mg S n) ((mg S n).length - 1)).fr, max (ix (mg S n) ((mg S n).length - 1)).to (ix S n).to⟩ := by
    show ext1 (mg S n) (ix S n) = _
    unfold ext1
    rw [if_pos ⟨h0, hc⟩]
  exact ⟨e, by rw [e, List.length_set]⟩
theorem rwM_new {S : List Ivl} {n : Nat} (hc : ¬ (0 < (mg S n).length ∧ (ix S n).fr ≤ (ix (mg S n) ((mg S n).length - 1)).to)) : mg S (n + 1) = mg S n ++ [ix S n] ∧ (mg S (n + 1)).length = (mg S n).length + 1 := by
  have e : mg S (n + 1) = mg S n ++ [ix S n] := by
    show ext1 (mg S n) (ix S n) = _
    unfold ext1
    rw [if_neg hc]
  exact ⟨e, by rw [e, List.length_append]; rfl⟩
theorem rwM_set1 {S : List Ivl} {n : Nat} (hn : n ≤ S.length) (h0 : 0 < (mg S n).length) (hc : (ix S n).fr ≤ (ix (mg S n) ((mg S n).length - 1)).to) {v : Ivl} (hv : v = ⟨(ix (mg S n) ((mg S n).length - 1)).fr, max (ix (mg S n) ((mg S n).length - 1)).to (ix S n).to⟩) : (rwM S n).set ((mg S n).length - 1) v = rwM S (n + 1) := by
  obtain ⟨e1, e2⟩ := rwM_old h0 hc
  unfold rwM
  rw [e2, e1, List.set_append_left _ _ (by omega), hv]
theorem rwM_set2 {S : List Ivl} {n : Nat} (hn : n < S.length) (hc : ¬ (0 < (mg S n).length ∧ (ix S n).fr ≤ (ix (mg S n) ((mg S n).length - 1)).to)) : (rwM S n).set (mg S n).length (ix S n) = rwM S (n + 1) := by
  obtain ⟨e1, e2⟩ := rwM_new hc
  have hl := mg_len S n
  unfold rwM
  rw [e2, e1, List.set_append_right _ _ (Nat.le_refl _), Nat.sub_self, List.drop_eq_getElem_cons (by omega : (mg S n).length < S.length), List.set_cons_zero, List.append_assoc]
  rfl
theorem rwM_end (S : List Ivl) (n : Nat) : (rwM S n).take (mg S n).length = mg S n := by unfold rwM; rw [List.take_append, List.take_of_length_le (Nat.le_refl _), Nat.sub_self, List.take_zero, List.append_nil]
def vI (i : Ivl) : Bool := (decide (0 ≤ i.fr) && decide (i.fr < i.to)) && decide (i.to ≤ 68719476736)
theorem vI_t {i : Ivl} (h : vI i = true) : 0 ≤ i.fr ∧ i.fr < i.to ∧ i.to ≤ 68719476736 := by
  unfold vI at h
  simp only [Bool.and_eq_true, decide_eq_true_eq] at h
  exact ⟨h.1.1, h.1.2, h.2⟩
def leF (a b : Ivl) : Bool := decide (a.fr ≤ b.fr)
noncomputable def nrm (X : List Ivl) : List Ivl := mg ((X.filter vI).mergeSort leF) ((X.filter vI).mergeSort leF).length
theorem mem_perm {A B : List Ivl} (h : A.Perm B) (t : Int) : Mem A t ↔ Mem B t := ⟨fun ⟨s, a, b⟩ => ⟨s, h.subset a, b⟩, fun ⟨s, a, b⟩ => ⟨s, h.symm.subset a, b⟩⟩
theorem mg_all {S X : List Ivl} (hp : S.Perm (X.filter vI)) (hs : S.Pairwise (fun a b => a.fr ≤ b.fr)) : NF (mg S S.length) ∧ ∀ t, Mem (mg S S.length) t ↔ Mem (X.filter vI) t := by
  have hv : ∀ s ∈ S, s.fr < s.to := fun s h => (vI_t (List.mem_filter.1 (hp.subset h)).2).2.1
  obtain ⟨h1, h2, _⟩ := mg_ok hv hs S.length (Nat.le_refl _)
  exact ⟨h1, fun t => by rw [h2, List.take_length]; exact mem_perm hp t⟩
theorem nrm_ok (X : List Ivl) : NF (nrm X) ∧ ∀ t, Mem (nrm X) t ↔ Mem (X.filter vI) t := by
  refine mg_all (List.mergeSort_perm _ _) ?_
  have := List.pairwise_mergeSort (le := leF) (fun a b c h1 h2 => by simp only [leF, decide_eq_true_eq] at *; omega) (fun a b => by simp only [leF, Bool.or_eq_true, decide_eq_true_eq]; omega) (X.filter vI)
  exact this.imp (fun h => by simpa [leF] using h)
theorem nrm_eq {S X : List Ivl} (hp : S.Perm (X.filter vI)) (hs : S.Pairwise (fun a b => a.fr ≤ b.fr)) : mg S S.length = nrm X := by
  obtain ⟨h1, h2⟩ := mg_all hp hs
  obtain ⟨h3, h4⟩ := nrm_ok X
  exact nf_uniq h1 h3 (fun t => (h2 t).trans (h4 t).symm)
theorem nrm_len (X : List Ivl) : (nrm X).length ≤ X.length := by
  have h1 := mg_len ((X.filter vI).mergeSort leF) ((X.filter vI).mergeSort leF).length
  have h2 := (List.mergeSort_perm (X.filter vI) leF).length_eq
  have h3 := List.length_filter_le vI X
  unfold nrm; omega

end Go.Proofs.Ytniefocnfcaebaa.Wk
