/- Vehicles by the reference. No condition. -/
import Derived.Test.YtakmjlpciicaiaaGreatDoorB10
set_option linter.unusedSimpArgs false
set_option linter.unusedVariables false
namespace Go.Proofs.YtakmjlpciicaiaaGreatDoor.Wk
open Go Go.RowKit Go.Proofs.YtakmjlpciicaiaaGreatDoor.Av
theorem bq_eq {l : List Psg} {s : ByteArray} (x : Psg) : bq l s x = (!(sEq (bel (ow l l.length) x) em) && sEq (bel (ow l l.length) x) s) := by
  unfold bq
  cases h : sEq (bel (ow l l.length) x) s with
  | false => simp
  | true => rw [sEq_eq h]
def inD (u : List ByteArray) (s : ByteArray) : Nat → Bool
  | 0 => false
  | k + 1 => inD u s k || sLt s (ix u k)
def inO (u : List ByteArray) (s : ByteArray) : Nat → List ByteArray
  | 0 => []
  | k + 1 => (bif !(inD u s k) && sLt s (ix u k) then inO u s k ++ [s] else inO u s k) ++ [ix u k]
def insT (u : List ByteArray) (s : ByteArray) : List ByteArray := bif u.any (fun y => sEq y s) then u else bif inD u s u.length then inO u s u.length else inO u s u.length ++ [s]
theorem sc_of_le {y z : ByteArray} (h : y.data.toList ≤ z.data.toList) : sc y z ≤ 0 := by
  rcases sc_cases y z with ⟨e, _⟩ | ⟨e, _⟩ | ⟨e, h2, _⟩
  · omega
  · omega
  · exfalso
    unfold sLt at h2
    rw [ByteArray.toList_eq, ByteArray.toList_eq, Go.Proofs.bytesLess_eq, decide_eq_true_eq] at h2
    exact absurd h2 (List.not_lt.2 h)
theorem srtS_pw (l : List ByteArray) : (srtS l).Pairwise (fun y z => sc y z ≤ 0) := by
  unfold srtS
  rw [List.pairwise_map]
  exact (leK_sorted _).imp (fun h => sc_of_le h)
theorem sc_0 {y z : ByteArray} (h : sc y z = 0) : y = z := by rcases sc_cases y z with q | q | q <;> first | exact q.2 | omega
theorem srtS_eq {u w : List ByteArray} (hp : u.Perm w) (hs : u.Pairwise (fun y z => sc y z ≤ 0)) : u = srtS w :=
  perm_uniq (fun y z h1 h2 => sc_0 (by have := sc_neg y z; omega)) (hp.trans (srtS_perm w).symm) hs (srtS_pw w)
theorem inD_no {u : List ByteArray} {s : ByteArray} : ∀ {k}, inD u s k = false → ∀ q, q < k → sLt s (ix u q) = false
  | 0, _, q, h => by omega
  | k + 1, hd, q, h => by
    simp only [inD, Bool.or_eq_false_iff] at hd
    rcases Nat.lt_succ_iff_lt_or_eq.1 h with e | e
    · exact inD_no hd.1 q e
    · rw [e]; exact hd.2
theorem inD_yes {u : List ByteArray} {s : ByteArray} : ∀ {k}, inD u s k = true → ∃ q, q < k ∧ sLt s (ix u q) = true
  | 0, h => by simp [inD] at h
  | k + 1, h => by
    simp only [inD, Bool.or_eq_true] at h
    rcases h with h | h
    · obtain ⟨q, h1, h2⟩ := inD_yes h; exact ⟨q, by omega, h2⟩
    · exact ⟨k, by omega, h⟩
theorem inO_perm {u : List ByteArray} {s : ByteArray} : ∀ k, k ≤ u.length → (inO u s k).Perm (u.take k ++ (bif inD u s k then [s] else []))
  | 0, _ => by simp [inO, inD]
  | k + 1, h => by
    have ih := inO_perm (u := u) (s := s) k (by omega)
    rw [take_ix (by omega)]
    simp only [inO, inD]
    cases hd : inD u s k with
    | true =>
      rw [hd] at ih
      simp only [Bool.not_true, Bool.false_and, cond_false, Bool.true_or, cond_true] at ih ⊢
      refine (List.Perm.append_right _ ih).trans ?_
      rw [List.append_assoc, List.append_assoc]
      exact List.Perm.append_left _ List.perm_append_comm
    | false =>
      rw [hd] at ih
      cases hl : sLt s (ix u k) with
      | true =>
        simp only [Bool.not_false, Bool.and_self, cond_true, Bool.or_true, cond_false, List.append_nil] at ih ⊢
        refine (List.Perm.append_right _ (List.Perm.append_right _ ih)).trans ?_
        rw [List.append_assoc, List.append_assoc]
        exact List.Perm.append_left _ List.perm_append_comm
      | false =>
        simp only [Bool.not_false, Bool.and_false, cond_false, Bool.or_false, List.append_nil] at ih ⊢
        exact List.Perm.append_right _ ih
theorem le_of_nlt {y z : ByteArray} (h : sLt y z = false) : sc z y ≤ 0 := by
  rcases sc_cases y z with q | q | q
  · have := sc_neg z y; omega
  · rw [q.2.1] at h; cases h
  · have := sc_neg z y; omega
theorem le_of_lt {y z : ByteArray} (h : sLt y z = true) : sc y z ≤ 0 := by
  rcases sc_cases y z with q | q | q
  · omega
  · omega
  · rw [sLt_anti q.2.1] at h; cases h
theorem inO_pw {u : List ByteArray} {s : ByteArray} (hs : u.Pairwise (fun y z => sc y z ≤ 0)) : ∀ k, k ≤ u.length → (inO u s k).Pairwise (fun y z => sc y z ≤ 0) ∧ (∀ y ∈ inO u s k, ∀ q, k ≤ q → q < u.length → sc y (ix u q) ≤ 0)
  | 0, _ => by simp [inO]
  | k + 1, h => by
    obtain ⟨h1, h2⟩ := inO_pw hs k (by omega)
    have hu : ∀ i j, i < j → j < u.length → sc (ix u i) (ix u j) ≤ 0 := fun i j hij hj => by
      have := List.pairwise_iff_getElem.1 hs i j (by omega) hj hij
      rwa [ix_eq (by omega), ix_eq hj] at this
    have hmem : ∀ y ∈ inO u s k, inD u s k = false → sc y s ≤ 0 := by
      intro y hy hd
      have := (inO_perm k (by omega)).subset hy
      rw [hd] at this
      simp only [cond_false, List.append_nil] at this
      obtain ⟨q, hq, rfl⟩ := List.getElem_of_mem this
      rw [List.length_take] at hq
      rw [List.getElem_take, ix_eq (by omega)]
      exact le_of_nlt (inD_no hd q (by omega))
    simp only [inO]
    cases hb : (!(inD u s k) && sLt s (ix u k)) with
    | true =>
      simp only [Bool.and_eq_true, Bool.not_eq_true'] at hb
      simp only [cond_true]
      refine ⟨?_, fun y hy q hq hl => ?_⟩
      · rw [List.pairwise_append, List.pairwise_append]
        refine ⟨⟨h1, List.pairwise_singleton _ _, fun a ha b hb' => by rw [List.mem_singleton] at hb'; rw [hb']; exact hmem a ha hb.1⟩, List.pairwise_singleton _ _, fun a ha b hb' => ?_⟩
        rw [List.mem_singleton] at hb'
        rw [hb']
        rcases List.mem_append.1 ha with ha | ha
        · exact h2 a ha k (Nat.le_refl _) (by omega)
        · rw [List.mem_singleton] at ha; rw [ha]; exact le_of_lt hb.2
      · rcases List.mem_append.1 hy with hy | hy
        · rcases List.mem_append.1 hy with hy | hy
          · exact h2 y hy q (by omega) hl
          · rw [List.mem_singleton] at hy
            rw [hy]
            exact (sc_tq s (ix u k) (ix u q) (le_of_lt hb.2) (hu k q (by omega) hl)).1
        · rw [List.mem_singleton] at hy; rw [hy]; exact hu k q (by omega) hl
    | false =>
      simp only [cond_false]
      refine ⟨?_, fun y hy q hq hl => ?_⟩
      · rw [List.pairwise_append]
        exact ⟨h1, List.pairwise_singleton _ _, fun a ha b hb' => by rw [List.mem_singleton] at hb'; rw [hb']; exact h2 a ha k (Nat.le_refl _) (by omega)⟩
      · rcases List.mem_append.1 hy with hy | hy
        · exact h2 y hy q (by omega) hl
        · rw [List.mem_singleton] at hy; rw [hy]; exact hu k q (by omega) hl
/-- one text more, in its place -/
theorem insT_srt (w : List ByteArray) (s : ByteArray) : insT (srtS w) s = srtS (bif w.any (fun y => sEq y s) then w else w ++ [s]) := by
  have ha : (srtS w).any (fun y => sEq y s) = w.any (fun y => sEq y s) := by
    have hp := srtS_perm w
    cases h : w.any (fun y => sEq y s) with
    | true => obtain ⟨y, hy, he⟩ := List.any_eq_true.1 h; exact List.any_eq_true.2 ⟨y, hp.symm.subset hy, he⟩
    | false => rw [List.any_eq_false] at h ⊢; exact fun y hy => h y (hp.subset hy)
  unfold insT
  rw [ha]
  cases h : w.any (fun y => sEq y s) with
  | true => rfl
  | false =>
    simp only [cond_false]
    have hpm := inO_perm (u := srtS w) (s := s) _ (Nat.le_refl _)
    obtain ⟨h1, _⟩ := inO_pw (s := s) (srtS_pw w) _ (Nat.le_refl _)
    rw [List.take_of_length_le (Nat.le_refl _)] at hpm
    cases hd : inD (srtS w) s (srtS w).length with
    | true =>
      rw [hd] at hpm
      exact srtS_eq (hpm.trans (List.Perm.append_right _ (srtS_perm w))) h1
    | false =>
      rw [hd] at hpm
      simp only [cond_false, List.append_nil] at hpm ⊢
      refine srtS_eq (List.Perm.append_right _ (hpm.trans (srtS_perm w))) ?_
      rw [List.pairwise_append]
      refine ⟨h1, List.pairwise_singleton _ _, fun a ha b hb => ?_⟩
      rw [List.mem_singleton] at hb
      rw [hb]
      obtain ⟨q, hq, rfl⟩ := List.getElem_of_mem (hpm.subset ha)
      rw [ix_eq hq]
      exact le_of_nlt (inD_no hd q hq)
theorem inO_len (u : List ByteArray) (s : ByteArray) : ∀ k, (inO u s k).length ≤ 2 * k
  | 0 => by simp [inO]
  | k + 1 => by
    have := inO_len u s k
    simp only [inO]
    cases (!(inD u s k) && sLt s (ix u k)) <;> simp only [cond_true, cond_false, List.length_append, List.length_singleton] <;> omega

end Go.Proofs.YtakmjlpciicaiaaGreatDoor.Wk
