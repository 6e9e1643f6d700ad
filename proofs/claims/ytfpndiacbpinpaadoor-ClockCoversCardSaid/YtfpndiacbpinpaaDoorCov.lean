/- The spans of a window are in normal form and hold just its times; the walk of ClockCovers. Condition: the table of months reads as the text lays it. -/
import Derived.Test.YtfpndiacbpinpaaDoorLawA
set_option linter.unusedSimpArgs false
set_option linter.unusedVariables false
namespace Go.Proofs.YtfpndiacbpinpaaDoor.Mt
def mem (l : List (Int × Int)) (x : Int) : Prop := ∃ p, p ∈ l ∧ p.1 ≤ x ∧ x < p.2
def NF (l : List (Int × Int)) (a b : Int) : Prop := (∀ p, p ∈ l → a ≤ p.1 ∧ p.1 < p.2 ∧ p.2 ≤ b) ∧ l.Pairwise (fun p q => p.2 < q.1)
theorem mem_snoc (l : List (Int × Int)) (p : Int × Int) (x : Int) : mem (l ++ [p]) x ↔ mem l x ∨ (p.1 ≤ x ∧ x < p.2) := by
  unfold mem
  constructor
  · rintro ⟨q, hq, h⟩
    rcases List.mem_append.1 hq with hq | hq
    · exact .inl ⟨q, hq, h⟩
    · rw [List.mem_singleton] at hq; subst hq; exact .inr h
  · rintro (⟨q, hq, h⟩ | h)
    · exact ⟨q, List.mem_append.2 (.inl hq), h⟩
    · exact ⟨p, List.mem_append.2 (.inr (List.mem_singleton.2 rfl)), h⟩
theorem nf_snoc {l : List (Int × Int)} {a b : Int} {p : Int × Int} (h : NF l a b) (h1 : ∀ q, q ∈ l → q.2 < p.1) (h2 : a ≤ p.1 ∧ p.1 < p.2 ∧ p.2 ≤ b) : NF (l ++ [p]) a b := by
  refine ⟨fun q hq => ?_, ?_⟩
  · rcases List.mem_append.1 hq with hq | hq
    · exact h.1 q hq
    · rw [List.mem_singleton] at hq; subst hq; exact h2
  · rw [List.pairwise_append]
    exact ⟨h.2, by simp, fun q hq r hr => by rw [List.mem_singleton] at hr; subst hr; exact h1 q hq⟩
theorem nf_front {l : List (Int × Int)} {a b : Int} {p : Int × Int} (h : NF (l ++ [p]) a b) : NF l a b ∧ (∀ q, q ∈ l → q.2 < p.1) ∧ a ≤ p.1 ∧ p.1 < p.2 ∧ p.2 ≤ b := by
  have h2 := List.pairwise_append.1 h.2
  exact ⟨⟨fun q hq => h.1 q (List.mem_append.2 (.inl hq)), h2.1⟩, fun q hq => h2.2.2 q hq p (List.mem_singleton.2 rfl), h.1 p (List.mem_append.2 (.inr (List.mem_singleton.2 rfl)))⟩
theorem push_nf {l : List (Int × Int)} {a b fr to : Int} (h : NF l a b) (h1 : ∀ p, p ∈ l → p.2 ≤ fr) (h2 : fr < to) (ha : a ≤ fr) (hb : to ≤ b) :
    NF (push l fr to) a b ∧ (∀ p, p ∈ push l fr to → p.2 ≤ to) ∧ ∀ x, mem (push l fr to) x ↔ mem l x ∨ (fr ≤ x ∧ x < to) := by
  rcases snoc_cases l with rfl | ⟨l, p, rfl⟩
  · rw [push_nil]
    exact ⟨nf_snoc (l := []) h (fun q hq => by cases hq) ⟨ha, h2, hb⟩, fun p hp => by rw [List.mem_singleton] at hp; subst hp; exact Int.le_refl _, fun x => mem_snoc [] (fr, to) x⟩
  · obtain ⟨n1, n2, n3, n4, n5⟩ := nf_front h
    have hp := h1 p (List.mem_append.2 (.inr (List.mem_singleton.2 rfl)))
    by_cases e : p.2 = fr
    · rw [push_join e]
      refine ⟨nf_snoc n1 n2 ⟨n3, by simp only; omega, hb⟩, fun q hq => ?_, fun x => ?_⟩
      · rcases List.mem_append.1 hq with hq | hq
        · have := n2 q hq; omega
        · rw [List.mem_singleton] at hq; subst hq; exact Int.le_refl _
      · rw [mem_snoc, mem_snoc]
        simp only
        by_cases hm : mem l x <;> simp [hm]
        omega
    · rw [push_more e]
      refine ⟨nf_snoc h (fun q hq => ?_) ⟨ha, h2, hb⟩, fun q hq => ?_, fun x => mem_snoc _ _ _⟩
      · rcases List.mem_append.1 hq with hq | hq
        · have := n2 q hq; simp only; omega
        · rw [List.mem_singleton] at hq; subst hq; simp only; omega
      · rcases List.mem_append.1 hq with hq | hq
        · have := h1 q hq; omega
        · rw [List.mem_singleton] at hq; subst hq; exact Int.le_refl _
theorem fot' (b : Bool) : b = false ∨ b = true := by cases b <;> simp
theorem spn_nf {d f t a b F : Int} (hf : 0 ≤ f) (ht : t ≤ 1440) : ∀ k : Nat, NF (spn d f t a b F k) a b ∧ (∀ p, p ∈ spn d f t a b F k → p.2 ≤ (F + (k : Int)) * 86400) ∧
    ∀ x, mem (spn d f t a b F k) x ↔ ∃ j : Nat, j < k ∧ bt d ((F + (j : Int)) % 7) = true ∧ frm f a (F + (j : Int)) ≤ x ∧ x < tot t b (F + (j : Int)) := by
  intro k
  induction k with
  | zero =>
    refine ⟨⟨fun p hp => (by simp [spn] at hp), by simp [spn]⟩, fun p hp => (by simp [spn] at hp), fun x => ⟨fun ⟨p, hp, _⟩ => (by simp [spn] at hp), fun ⟨j, hj, _⟩ => (by omega)⟩⟩
  | succ k ih =>
    obtain ⟨i1, i2, i3⟩ := ih
    obtain ⟨y, hy⟩ : ∃ y, F + (k : Int) = y := ⟨_, rfl⟩
    have hy1 : F + ((k + 1 : Nat) : Int) = y + 1 := by omega
    have hsplit : ∀ (x : Int), (∃ j : Nat, j < k + 1 ∧ bt d ((F + (j : Int)) % 7) = true ∧ frm f a (F + (j : Int)) ≤ x ∧ x < tot t b (F + (j : Int))) ↔
        (∃ j : Nat, j < k ∧ bt d ((F + (j : Int)) % 7) = true ∧ frm f a (F + (j : Int)) ≤ x ∧ x < tot t b (F + (j : Int))) ∨ (bt d (y % 7) = true ∧ frm f a y ≤ x ∧ x < tot t b y) := by
      intro x
      constructor
      · rintro ⟨j, hj, h⟩
        rcases Nat.lt_or_ge j k with h1 | h1
        · exact .inl ⟨j, h1, h⟩
        · have : j = k := by omega
          subst this
          rw [hy] at h
          exact .inr h
      · rintro (⟨j, hj, h⟩ | h)
        · exact ⟨j, by omega, h⟩
        · exact ⟨k, by omega, by rw [hy]; exact h⟩
    have hfr : y * 86400 ≤ frm f a y := by unfold frm; omega
    have hfa : a ≤ frm f a y := by unfold frm; omega
    have hto : tot t b y ≤ (y + 1) * 86400 := by unfold tot; omega
    have htb : tot t b y ≤ b := by unfold tot; omega
    by_cases hc : bt d (y % 7) = true ∧ frm f a y < tot t b y
    · obtain ⟨p1, p2, p3⟩ := push_nf i1 (fun p hp => by have := i2 p hp; rw [hy] at this; omega) hc.2 hfa htb
      rw [spn_push hy rfl hc, hy1]
      refine ⟨p1, fun p hp => by have := p2 p hp; omega, fun x => ?_⟩
      rw [p3 x, i3 x, hsplit x]
      simp [hc.1]
    · rw [spn_skip hy rfl hc, hy1]
      refine ⟨i1, fun p hp => by have := i2 p hp; rw [hy] at this; omega, fun x => ?_⟩
      rw [i3 x, hsplit x]
      constructor
      · exact .inl
      · rintro (h | ⟨h1, h2, h3⟩)
        · exact h
        · exact absurd ⟨h1, by omega⟩ hc
theorem spans_bad {d f t a b : Int} (h : (spansS d f t a b).2 ≠ 0) : (spansS d f t a b).1 = [] := by
  unfold spansS at h ⊢
  split
  · rfl
  · split
    · rfl
    · split
      · rfl
      · rename_i h1 h2 h3; simp [h1, h2, h3] at h
theorem spans_nf {d f t a b : Int} (h : (spansS d f t a b).2 = 0) : NF (spansS d f t a b).1 a b ∧ ∀ x, mem (spansS d f t a b).1 x ↔ inS d f t x = true ∧ a ≤ x ∧ x < b := by
  rcases fot' (vi a b) with hv | hv
  · rw [sp_time hv] at h; simp at h
  · by_cases hl : 366 ≤ (b - 1) / 86400 - a / 86400
    · rw [sp_limit hv hl] at h; simp at h
    · rcases fot' (vw d f t) with hw | hw
      · rw [sp_none hv hl hw]
        refine ⟨⟨fun p hp => (by cases hp), List.Pairwise.nil⟩, fun x => ⟨fun ⟨p, hp, _⟩ => (by cases hp), fun h => ?_⟩⟩
        have := h.1
        simp [inS, hw] at this
      · obtain ⟨v1, v2, v3⟩ := (vi_iff a b).1 hv
        obtain ⟨w1, w2, w3, w4, w5⟩ := (vw_iff d f t).1 hw
        obtain ⟨F, hF⟩ : ∃ F, a / 86400 = F := ⟨_, rfl⟩
        obtain ⟨L, hL⟩ : ∃ L, (b - 1) / 86400 = L := ⟨_, rfl⟩
        rw [sp_ok hv hl hw hF hL]
        obtain ⟨n1, n2, n3⟩ := spn_nf (d := d) (f := f) (t := t) (a := a) (b := b) (F := F) w3 w5 (L - F + 1).toNat
        refine ⟨n1, fun x => ?_⟩
        rw [n3 x]
        constructor
        · rintro ⟨j, hj, h1, h2, h3⟩
          obtain ⟨y, hy⟩ : ∃ y, F + (j : Int) = y := ⟨_, rfl⟩
          rw [hy] at h1 h2 h3
          unfold frm at h2
          unfold tot at h3
          have hx0 : 0 ≤ x := by omega
          have hxT : isT x = true := (isT_iff x).2 ⟨hx0, by omega⟩
          have hyd : x / 86400 = y := by omega
          have hmin : minS x = x % 86400 / 60 := minS_in hxT
          refine ⟨?_, by omega, by omega⟩
          unfold inS
          rw [hw, hxT, hyd, h1, hmin]
          have hm1 : f ≤ x % 86400 / 60 := by omega
          have hm2 : x % 86400 / 60 < t := by omega
          simp [hm1, hm2]
        · rintro ⟨h1, h2, h3⟩
          unfold inS at h1
          have hxT : isT x = true := (isT_iff x).2 ⟨by omega, by omega⟩
          rw [minS_in hxT] at h1
          simp only [Bool.and_eq_true, decide_eq_true_eq] at h1
          obtain ⟨⟨⟨⟨_, _⟩, h4⟩, h5⟩, h6⟩ := h1
          refine ⟨(x / 86400 - F).toNat, by omega, ?_⟩
          have e : F + (((x / 86400 - F).toNat : Nat) : Int) = x / 86400 := by omega
          rw [e]
          refine ⟨h4, ?_, ?_⟩
          · unfold frm; omega
          · unfold tot; omega
/-- is x in one of the first k? -/
def hs (l : List (Int × Int)) (x : Int) (k : Nat) : Bool := decide (∃ i, i < k ∧ (l.getD i (0, 0)).1 ≤ x ∧ x < (l.getD i (0, 0)).2)
theorem hs_zero (l : List (Int × Int)) (x : Int) : hs l x 0 = false := by simp [hs]
theorem hs_yes {l : List (Int × Int)} {x : Int} {k : Nat} (h : (l.getD k (0, 0)).1 ≤ x ∧ x < (l.getD k (0, 0)).2) : hs l x (k + 1) = true := by
  simp only [hs, decide_eq_true_eq]; exact ⟨k, by omega, h⟩
theorem hs_no {l : List (Int × Int)} {x : Int} {k : Nat} (h : ¬ ((l.getD k (0, 0)).1 ≤ x ∧ x < (l.getD k (0, 0)).2)) : hs l x (k + 1) = hs l x k := by
  unfold hs
  congr 1
  apply propext
  constructor
  · rintro ⟨i, hi, e⟩
    rcases Nat.lt_or_ge i k with h1 | h1
    · exact ⟨i, h1, e⟩
    · have : i = k := by omega
      subst this; exact absurd e h
  · rintro ⟨i, hi, e⟩; exact ⟨i, by omega, e⟩
theorem hs_all (l : List (Int × Int)) (x : Int) : hs l x l.length = true ↔ mem l x := by
  simp only [hs, decide_eq_true_eq, mem]
  constructor
  · rintro ⟨i, hi, e⟩
    rw [List.getD_eq_getElem?_getD, List.getElem?_eq_getElem hi] at e
    exact ⟨l[i], List.getElem_mem _, by simpa using e⟩
  · rintro ⟨p, hp, e⟩
    obtain ⟨i, hi, rfl⟩ := List.getElem_of_mem hp
    exact ⟨i, hi, by rw [List.getD_eq_getElem?_getD, List.getElem?_eq_getElem hi]; simpa using e⟩
theorem nf_at {l : List (Int × Int)} {a b : Int} (h : NF l a b) {i : Nat} (hi : i < l.length) : a ≤ (l.getD i (0, 0)).1 ∧ (l.getD i (0, 0)).1 < (l.getD i (0, 0)).2 ∧ (l.getD i (0, 0)).2 ≤ b := by
  rw [List.getD_eq_getElem?_getD, List.getElem?_eq_getElem hi]
  exact h.1 _ (List.getElem_mem _)
theorem nf_step {l : List (Int × Int)} {a b : Int} (h : NF l a b) {i : Nat} (hi : i + 1 < l.length) : (l.getD i (0, 0)).2 < (l.getD (i + 1) (0, 0)).1 := by
  rw [List.getD_eq_getElem?_getD, List.getElem?_eq_getElem (by omega), List.getD_eq_getElem?_getD, List.getElem?_eq_getElem hi]
  exact List.pairwise_iff_getElem.1 h.2 i (i + 1) (by omega) hi (by omega)
end Go.Proofs.YtfpndiacbpinpaaDoor.Mt
