/- Plain mathematics of RefillFloor: moves that take no more than an amount, every amount paid: no balance below both bounds. Condition: an amount of at least 1. -/
import Derived.Test.YtodkcnhdiddbkaaMmath
set_option linter.unusedSimpArgs false
set_option linter.unusedVariables false
namespace Go.Proofs.Ytodkcnhdiddbkaa.Mt
theorem floor_of {r : Ru} {os : List Bool} {lo : Int} (hc : 1 ≤ r.c) (hlo : lo ≤ r.b) (hos : ∀ i, i < os.length → os.getD i false = true) : ∀ (ms : List Int) (st st' : St) (k : Nat), rloop r os st k ms = some st' → (∀ m ∈ ms, -r.c ≤ m) → st.f = ⟨1, 0, 0⟩ → lo ≤ st.bal → st.req ≤ k → k + ms.length ≤ os.length → (∀ x ∈ st.out, lo ≤ x) → st'.f = ⟨1, 0, 0⟩ ∧ ∀ x ∈ st'.out, lo ≤ x := by
  intro ms
  induction ms with
  | nil => intro st st' k h _ h1 _ _ _ h2; injection h with h; subst h; exact ⟨h1, h2⟩
  | cons m rest ih =>
    intro st st' k h hm hf hb hq hl hx
    obtain ⟨bal, f, req, out⟩ := st
    simp only at hf hb hq hx
    subst hf
    have hm0 := hm m (List.mem_cons_self ..)
    have hl2 : k + rest.length + 1 ≤ os.length := by simpa [Nat.add_assoc] using hl
    rw [rloop] at h
    split at h
    · cases h
    · rename_i st1 hs
      unfold rstep at hs
      split at hs
      · cases hs
      · rename_i ha
        obtain ⟨x, hxx⟩ := ad_eq ha
        simp only at hxx
        obtain ⟨f1, f2, f3, rfl⟩ := ad_all hxx
        simp only [hxx] at hs
        by_cases hxb : r.b ≤ bal + m
        · have e : stp r ⟨1, 0, 0⟩ (bal + m) k = (⟨1, 0, 0⟩, 0) := by rw [stp, if_pos (by simp [hxb])]
          rw [e] at hs
          simp only at hs
          rw [if_neg (by omega)] at hs
          injection hs with hs
          subst hs
          refine ih _ _ _ h (fun y hy => hm y (List.mem_cons_of_mem _ hy)) rfl (by show lo ≤ bal + m; omega) (by show req ≤ k + 1; omega) (by omega) ?_
          intro y hy
          rcases List.mem_append.1 hy with h1 | h1
          · exact hx y h1
          · have : y = bal + m := by simpa using h1
            omega
        · have e : stp r ⟨1, 0, 0⟩ (bal + m) k = (⟨2, 0, 0⟩, r.c) := by rw [stp, if_neg (by simp; omega)]
          rw [e] at hs
          simp only at hs
          rw [if_pos (by omega), if_pos ⟨by omega, hos _ (by omega)⟩] at hs
          split at hs
          · cases hs
          · rename_i ha2
            obtain ⟨y, hy⟩ := ad_eq ha2
            obtain ⟨_, _, _, rfl⟩ := ad_all hy
            rw [hy] at hs
            injection hs with hs
            subst hs
            refine ih _ _ _ h (fun y hy => hm y (List.mem_cons_of_mem _ hy)) rfl (by show lo ≤ bal + m + r.c; omega) (by show req + 1 ≤ k + 1; omega) (by omega) ?_
            intro y hy
            rcases List.mem_append.1 hy with h1 | h1
            · exact hx y h1
            · have : y = bal + m + r.c := by simpa using h1
              omega
theorem run_floor {r : Ru} {bal : Int} {ms out : List Int} {os : List Bool} {f : Fi} (h : runS r bal ms os = (out, f, 0)) (hc : 1 ≤ r.c) (hos : ∀ i, i < os.length → os.getD i false = true) (hm : ∀ m ∈ ms, -r.c ≤ m) (hl : ms.length ≤ os.length) :
    f = ⟨1, 0, 0⟩ ∧ ∀ x ∈ out, min r.b bal ≤ x := by
  unfold runS at h
  split at h
  · rename_i h1
    injection h with h2 h3
    injection h3 with _ h4
    exact absurd h4 h1
  · split at h
    · injection h with h2 h3
      injection h3 with _ h4
      omega
    · split at h
      · injection h with h2 h3
        injection h3 with _ h4
        omega
      · split at h
        · injection h with h2 h3
          injection h3 with _ h4
          omega
        · rename_i st hs
          injection h with h2 h3
          injection h3 with h3 _
          have := floor_of (lo := min r.b bal) hc (Int.min_le_left _ _) hos _ _ _ _ hs hm rfl (Int.min_le_right _ _) (Nat.le_refl _) (by omega) (fun x hx => by cases hx)
          rw [← h2, ← h3]
          exact this
def mv (c x : Int) : Int := -(x % (c + 1))
/-- the first k moves written, the rest 0 -/
def fl (c : Int) (xs : List Int) (n k : Nat) : List Int := (List.range n).map fun i => if i < k then mv c (xs.getD i 0) else 0
def ft (n k : Nat) : List Bool := (List.range n).map fun i => decide (i < k)
theorem fl_len (c : Int) (xs : List Int) (n k : Nat) : (fl c xs n k).length = n := by simp [fl]
theorem ft_len (n k : Nat) : (ft n k).length = n := by simp [ft]
theorem fl_set {c : Int} {xs : List Int} {n k : Nat} (hk : k < n) : (fl c xs n k).set k (mv c (xs.getD k 0)) = fl c xs n (k + 1) := by
  apply List.ext_getElem
  · simp [fl]
  · intro i h1 h2
    rw [List.getElem_set]
    simp only [fl, List.getElem_map, List.getElem_range]
    by_cases h : k = i
    · subst h; simp
    · rw [if_neg h]
      by_cases h3 : i < k
      · rw [if_pos h3, if_pos (by omega)]
      · rw [if_neg h3, if_neg (by omega)]
theorem ft_set {n k : Nat} (hk : k < n) : (ft n k).set k true = ft n (k + 1) := by
  apply List.ext_getElem
  · simp [ft]
  · intro i h1 h2
    rw [List.getElem_set]
    simp only [ft, List.getElem_map, List.getElem_range]
    by_cases h : k = i
    · subst h; simp
    · rw [if_neg h]
      congr 1
      apply propext
      omega
theorem mv_in {c x : Int} (hc : 1 ≤ c) : 0 ≤ x % (c + 1) ∧ x % (c + 1) ≤ c := ⟨Int.emod_nonneg _ (by omega), by have := Int.emod_lt_of_pos x (b := c + 1) (by omega); omega⟩
theorem fl_ge {c : Int} {xs : List Int} {n : Nat} (hc : 1 ≤ c) (k : Nat) : ∀ m ∈ fl c xs n k, -c ≤ m := by
  intro m hm
  unfold fl at hm
  obtain ⟨i, _, rfl⟩ := List.mem_map.1 hm
  have := mv_in (x := xs.getD i 0) hc
  show -c ≤ if i < k then mv c (xs.getD i 0) else 0
  unfold mv
  split <;> omega
theorem ft_all (n : Nat) : ∀ i, i < (ft n n).length → (ft n n).getD i false = true := by
  intro i hi
  rw [ft_len] at hi
  simp [ft, hi]
end Go.Proofs.Ytodkcnhdiddbkaa.Mt
